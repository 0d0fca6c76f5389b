import PyProof.Rows.All
import Wide.All
import OpenK.AllK
import Wide.FinOn
import Lean
import PyProof.EqAt
import PyProof.EqKinds
import PyProof.TupleCall
import PyProof.Rows.SetFrom
import PyProof.ExcAttrAll.ValueError
import KE.KDictList
import KE.KRevIter
import KE.KPairComp
import PyProof.EqAt
import KE.KSortTup
import PyProof.DictValues
import PyProof.DictWalks
import KE.KDictList
import KE.KItemsList
import KE.KIsAll
import KE.KIntText
import KE.KRevSl
import PyProof.StrCalls2
import PyProof.CallStr
import PyProof.StrLawsTight
import PyProof.StrLawsChain
import KE.KLam
import KE.KMinKey
import KE.KNestM
import PySem.Challenge.RW_homeround_k32_trees_hung
set_option Elab.async false
set_option linter.all false
set_option maxRecDepth 100000
set_option maxHeartbeats 4000000
noncomputable section
open PySem renaming wpAny_bind->aa,wpAny_pure->ak,sizeLine->ba,mainGlobals->bg,bootBuiltins->fi,wpAny_holding->fj,starEach->fm,wpAny_call_entry->fw,wpAny_newObj_type->gf,mem_of_lookup->gk,intKind->gq,wpAny_callSpecial?_slot->ig,wpAny_mono->iq,wpAny_truthy_bool->ir,Spec->iw,codeAny_builtin->i5,compareOp->i7,IsTupleKey->ja,wpAny_setState_of->jh,wpAny_field->jt,cellsFrom->jx,wpAny_seqItems->jz,sysModules->j5,sizeLine_eq->j9,codeAny_mono->kq,binaryOp->lh,wpAny_passesOwn->lq,rawInt->lr,wpAny_specialOf->mf,wpAny_askSetting->mz,wpAny_isInstance->nh,wpAny_setField_rec->ny,argBest->og,tupleKeyHash->oq,foldedSetIterable->ou,plainId_quiet->oz,wpAny_forIn_list->p0,wpAny_standAt->qk,tupleKind_room_in1->qp,wpAny_attempt->qq,assignEach->q9,sliceBounds->rf,wpAny_pyIter_list->rh,ofAClassStatement->rm,wpAny_setField->sa,wpAny_typeOf->sg,isSubtype_tuple_tuple->so,codeAny_call_builtin->uc,behindInMarks->ud,wpAny_newList->ug,wpAny_rule->uj,wpAny_execs_nil->um,letOwnedTupleGo->uo,codeAny->uq,wpAny_of_eq->uv,wpAny_setEntries_of->u9,backTo->vg,wpAny_Call_Name_kw->vk,wpAny_pyIter_tuple->vn,wpAny_tupleItemsOf->vq,wpAny_eqBool_tuple->vt,firstArgMember->v9,wpAny_tryCatch->wa,pyNext->wg,call_meets->wk,wpAny_comprehension_free->wq,holding->xb,wpAny_pyNext_tuple_item->xc,getItem->xf,wpAny_letGo->xi,wpAny_eqBool_int->xr,noFill_tuple_add->xt,checkBuiltinCall->xx,wpAny_pyNext_tuple_end->ya,wpAny_pyIter_tupleiter->yc,wpAny_isTrue_Compare1->yg,codeAny_of_tree->yj,pushCells_keeps->yk,wpAny_updateSeq->yq,builtinLookup_eq_fast->yx,wpAny_eqIsQuiet_tuple->y8,isInstance->zc,reduceHash->zd,unbindBehindTheSuite->zi,wpAny_bindName->zp,Result->zq,newFunctionEnv->zr,wpAny_runValue->zv,isSubtype_type->z8,standAt->Ab,subscripted->Ad,richCompare->Ah,hashByValue->Ak,tupleKind->Au,assignInOrder->Av,seq_tuple_add->Ax,seqItems?->AB,builtinsNs->AI,wpAny_call->AJ,callerA->AK,valueAt->AL,relabel->AM,assign->AQ,pyIter->AR,concat_meets->AS,seqIndex_neg->AU,bindName->A6,swapsWith->A8,BindsTo->A9,seqIndex_of->Bb,keywordEach->Bc,pushCells->Bd,IsEnum->Bf,eqIsQuiet->Bg
open PySem.W renaming Frag->ae,nsIn->bo,mg_of->cx,keepIn->da,codeIn->di,fnOf->du,mg_none_of->d7,kitOne->e9,findIn->j3,excIn->ku,Looks->o4,exmOne->pq,kas_place->pw,kas_sort->qt,cellsFrom_some->qx,kitAny->sd,kas_rev->tm,looks_findIn->ub,clsIn->ui,kas_desc->vv,kas_descPart->vw,methodObj->we,specialIn->wx,mroIn->xk,kas_asc->xm,takesIn->yr,hideAll_get->Aa,subIn->AE,kas_count->AF,kas_tail3->Bh,kas_bin->Bi
open List renaming length_map->af,getElem?_eq_getElem->ah,getElem?_eq_some_iff->ai,getD_eq_getElem?_getD->aj,size_toArray->aq,range->ar,length_append->au,mem_cons_of_mem->av,mem_of_getElem?->aw,getElem?_map->az,mem_cons->bj,mem_singleton->bq,mem_cons_self->cg,length_range->cm,mem_range->cp,map_append->cq,length_cons->cw,mem_map->cy,mem_append->de,map_cons->df,mem_append_right->dg,replicate->dj,getElem?_append_left->dk,getElem?_append_right->dw,mem_append_left->d5,length_set->d8,length_take->e8,getElem_mem->fb,all_eq_true->fg,take_add_one->fk,map_map->ft,take_length->fz,append_assoc->gg,nodup_cons->gh,mem_iff_getElem?->gi,getElem?_set_self->gm,getElem?_set_ne->gp,nodup_iff_pairwise_ne->ic,map_congr_left->ij,length_drop->il,lookup_cons->ip,flatMap_cons->i6,getElem?_toArray->jg,take_of_length_le->jl,sum_cons->jo,length_singleton->jq,forIn_cons->jr,nodup_range->ju,take_append_of_le_length->jv,drop_append_of_le_length->jw,toArray->j4,pairwise_map->j6,mem_filter->j7,perm_ext_iff_of_nodup->kg,mem_flatMap->km,length_replicate->kr,getElem?_drop->ky,rel_of_pairwise_cons->lg,append_nil->lx,getElem?_take_of_lt->ly,getElem?_replicate->mn,replicate_succ->mq,getElem_of_mem->mr,not_mem_nil->ng,countP_cons->nj,forIn_nil->nq,find?_cons->n6,length_nil->n9,pairwise_iff_getElem->pz,getElem_map->p8,mem_map_of_mem->qe,getElem?_range->qf,length_erase_of_mem->qj,mem_filterMap->ql,all_cons->qo,sum_append->qw,range_succ_eq_map->qz,flatten_cons->rg,nodup_append->rn,nodup_nil->rz,map_nil->sk,ext_getElem->tu,eq_nil_of_length_eq_zero->t7,filter_cons->t8,any_cons->ue,map_drop->uf,filterMap_cons->uk,nil_append->ur,idxOf_lt_length_of_mem->vb,length_eraseIdx_of_lt->ve,exists_cons_of_ne_nil->vf,pairwise_cons->vm,zip_cons_cons->vp,getElem_range->vx,countP_append->vy,any_eq_false->w5,map_take->xh,filter_cons_of_neg->xq,any_eq_true->xy,drop_of_length_le->yf,of_mem_zip->yh,countP_mono_left->yt,contains_iff_mem->yv,take_append_drop->yz,map_id'->za,pairwise_append->zk,perm_cons_erase->zm,take_zero->zu,length_pos_iff->Ae,flatMap_append->Af,countP_pos_iff->An,countP_eq_zero->Ao,filter_eq_self->Aq,length->Ba
open PySem.Heap renaming get?_push_of_some->ao,get?_push_size->bp,lt_size->br,SameBut->iu,get?_update_self->i4,size_push->jc,get?_update_other->kc,ExtBut->Ag,get?_update_ne->Aj,FlyingW->A0
open Nat renaming le_refl->ay,lt_of_le_of_lt->bc,zero_le->bh,lt_of_lt_of_le->cv,ne_of_lt->d0,le_trans->et,lt_succ_of_lt->jm,pow_le_pow_right->jy,min_eq_left->ka,lt_irrefl->kn,not_lt_zero->mh,le_of_lt->mi,ne_of_gt->mj,lt_succ_self->nc,le_add_right->ni,max_eq_right->qa,min_eq_right->qb,max_eq_left->qv,lt_trichotomy->rl,sub_self->sr,le_total->sv,gcd_comm->vz,le_of_succ_le->wo,lt_succ_iff_lt_or_eq->w4,le_succ->xg,mod_lt->AN,add_comm->AV
open Bool renaming false_ne_true->bu,false_eq_true->dm,and_eq_true->ff,not_true->jf,not_eq_true->p6,and_eq_true_iff->ua
open PySem.SetTable renaming below->cf,leap->gj,runEnd->je,bits->mx,turns->nr,sizeAbove->n4,toList_insertAt->qi,probe->se,grown->wb,insertAt->wy,has->yy
open Option.some renaming inj->cu
open Array renaming getD_eq_getD_getElem?->dh,getElem?_eq_getElem->d9,length_toList->fc,getElem?_eq_none->jb,forIn_toList->n0,perm_iff_toList_perm->o9,getElem?_toList->su,toList_inj->tw,replicate->u7,getElem_toList->zj,toList->AO
open Int renaming toNat_natCast->dy,mul_assoc->fq,mul_left_comm->h7,mul_comm->jj,mul_add->my,ediv_le_self->nk,le_refl->rj,mul_pos->rq,mul_le_mul_of_nonneg_left->t9,zero_add->v5,eq_of_mul_eq_mul_left->wc,gcd_dvd_right->w6,mul_ediv_cancel_left->w8,le_of_dvd->xp,ediv_one->yi,emod_nonneg->yp,natAbs_dvd_natAbs->y9,mul_ediv_cancel'->zo,natAbs_mul->z9,add_mul->Ar,mul_sub->As,sub_mul->Bk
open Classical renaming byContradiction->dz
open PySem.PassesOwn renaming never->d6
open PySem.F renaming plainAttrs_list->fh,slot_list_append->gv,type_list_append->gw,slot_tuple_iterator_next->ke,plain_min_loop->kl,slot_enumerate_next->oo,called_set->ot,slot_tuple_hash->o5,args_tuple_add_2->qg,entry_tuple_add->qm,slot_tuple_add->qy,args_tuple_iterator_next_1->uh,entry_tuple_iterator_next->uw,slot_tuple_eq->uz,args_enumerate_next_1->xj,entry_min_loop->xw,entry_enumerate_next->ye,excBase_ValueError->zh
open PySem.Builtin.Tuple renaming tupleHashOf->fv,tupleExact->me,tupleItemsOf->o8
open Option renaming isSome_iff_exists->gc,map_eq_some_iff->i9,map_some->uu,isSome_map->wm
open PyProof.Rows renaming slot_tuple_getitem->gu,callWith_type1->j8,seqObj->kd,assignInOrder_cons->vh,AllBare->v8,subscriptTail_builtinR->yd,entry_list_sort->ym,SortSt->yu,SortKind->ze,slot_list_sort->zx,args_list_sort->zy,entry_tuple_getitem->Ac,mirror_size->Ai,envOfC->Aw,subscriptTail->Az,listUpdate_at->AA,failedOf->AG,listItems_at->AW,plain_sorted->AX,entry_sorted->AY,args_sorted1->AZ,kind_sorted->Be,pendingOf->Bj
open PySem.Around renaming under_plainId->i8
open PySem.Builtin.SmallTypes renaming nextOf->jd,ownedTupleHandOut->pk,ownedTupleIsFree->qc
open PySem.Obj renaming mapSeq->ji,data_mapFields->nv,isFreed_of_fields->om,cls_mapFields->wu,mapFields->xn
open Ne renaming symm->jk
open PySem.Heap.SameBut renaming update->jn
open PySem.AutoSeq1 renaming wpAny_loadPart'->js
open False renaming elim->ki
open PySem.Builtin.Slice renaming slicePlaces->la,sliceAdjust->pg,sliceApplied->vd
open PySem.SetTable.layClean renaming free->nu
open PySem.Str renaming ofString->n5
open PySem.Builtin.List renaming listExtendWith->oh,listTooLong->qh,listLengthHint->u6
open PySem.SetTable.below renaming go->o6
open PySem.Calls renaming call_function_entry->ph,Name_function_global->vc,evalArgs_plain->zg
open PySem.PyData renaming hasDict->pj,hasDictAll->wt,depthAll->yn
open PySem.Builtin.Int renaming intBits->qd
open Array.Perm renaming refl->qr
open PyProof.Rows.F renaming plain_set_update_loop->qu,entry_set_update_loop->xo
open PySem.Builtin.Builtins renaming bindParams->uy
open PySem.Code renaming quiet_builtin->vo
open PySem.Value renaming isInt_shape->wd
open LawfulBEq renaming eq_of_beq->wj
open PySem.SetTable.probe renaming go->wz
open PySem.Paired renaming length->w9
open PySem.Builtin renaming sorted->xu
open List.Perm renaming append_left->yo
open List.Pairwise renaming of_cons->zb
open Prod renaming ext->Ay
open ToString renaming toString->AD
open PySem.pickOrder renaming go->A5
open Sum.inl renaming inj->A7
namespace L2
open PySem PySem.Spec PyProof.Rows
abbrev Key:=Sum Int Str
def aAm:Key->Value->Bool
 | .inl k,v=>Value.isInt k v
 | .inr x,v=>Value.isStrOf x v
def aJB (w:World):Key->Int
 | .inl k=>hashInt k
 | .inr x=>hashStr w x
theorem cX:∀ {k:Key} {v:Value},aAm k v=true->(∃ i t,k=Sum.inl i/\v=Value.int i t)\/(∃ x t,k=Sum.inr x/\v=Value.str x t)
 | .inl i,v,h=>by
  obtain ⟨t,e⟩:=wd (k:=i) (v:=v) h
  exact .inl ⟨i,t,rfl,e⟩
 | .inr x,v,h=>by
  obtain ⟨t,e⟩:=Value.isStrOf_shape (x:=x) (v:=v) h
  exact .inr ⟨x,t,rfl,e⟩
theorem aBG (i:Int)(t:Tok):aAm (.inl i) (.int i t)=true:=by simp [aAm,Value.isInt]
theorem aAR (x:Str)(t:Tok):aAm (.inr x) (.str x t)=true:=by simp [aAm,Value.isStrOf]
theorem aGi (a b:Int):decide ((Sum.inl a:Key)=Sum.inl b)=(a == b):=by
 by_cases e:a=b
 ·subst e;simp
 ·have h:¬ (Sum.inl a:Key)=Sum.inl b:=fun q=>e (A7 q)
  rw [decide_eq_false h]
  exact (beq_eq_false_iff_ne.mpr e).symm
theorem aGs (a b:Str):decide ((Sum.inr a:Key)=Sum.inr b)=decide (a=b):=by
 by_cases e:a=b
 ·subst e;simp
 ·have h:¬ (Sum.inr a:Key)=Sum.inr b:=fun q=>e (Sum.inr.inj q)
  rw [decide_eq_false h,decide_eq_false e]
theorem aHJ (a:Int)(b:Str):decide ((Sum.inl a:Key)=Sum.inr b)=false:=decide_eq_false (fun q=>nomatch q)
theorem aHn (a:Str)(b:Int):decide ((Sum.inr a:Key)=Sum.inl b)=false:=decide_eq_false (fun q=>nomatch q)
def dO (prog:Program) (w:World):PySem.KeyKind prog w Key where
 is:=aAm
 hash:=aJB w
 inj:=fun v a b ha hb=>by
  rcases cX ha with ⟨i,t,rfl,rfl⟩ | ⟨x,t,rfl,rfl⟩
  ·rcases cX hb with ⟨j,u,rfl,e⟩ | ⟨y,u,rfl,e⟩
   ·injection e with e1 _;rw [e1]
   ·exact nomatch e
  ·rcases cX hb with ⟨j,u,rfl,e⟩ | ⟨y,u,rfl,e⟩
   ·exact nomatch e
   ·injection e with e1 _;rw [e1]
 byValue:=fun k v h=>by
  rcases cX h with ⟨i,t,rfl,rfl⟩ | ⟨x,t,rfl,rfl⟩ <;> rfl
 pyHash:=fun hv h=>by
  rcases cX hv with ⟨i,t,rfl,rfl⟩ | ⟨x,t,rfl,rfl⟩
  ·exact wpAny_pyHash_int h
  ·exact wpAny_pyHash_str h
 eqBool:=fun hu hv h=>by
  rcases cX hu with ⟨i,t,rfl,rfl⟩ | ⟨x,t,rfl,rfl⟩
  ·rcases cX hv with ⟨j,u,rfl,rfl⟩ | ⟨y,u,rfl,rfl⟩
   ·rw [aGi] at h;exact xr h
   ·rw [aHJ] at h;exact SeqAt.EqAt.int_str i t y u _ _ _ _ h
  ·rcases cX hv with ⟨j,u,rfl,rfl⟩ | ⟨y,u,rfl,rfl⟩
   ·rw [aHn] at h;exact SeqAt.EqAt.str_int x t j u _ _ _ _ h
   ·rw [aGs] at h;exact wpAny_eqBool_str h
 «strs»:=fun k x t v h=>by
  rcases cX h with ⟨i,u,rfl,e⟩ | ⟨y,u,rfl,e⟩
  ·exact nomatch e
  ·injection e with e1 _
   subst e1
   cases v <;> rfl
theorem xN (prog:Program)(w:World)(i:Int)(t:Tok):(dO prog w).is (.inl i) (.int i t)=true:=aBG i t
theorem yP (prog:Program)(w:World)(x:Str)(t:Tok):(dO prog w).is (.inr x) (.str x t)=true:=aAR x t
inductive V where
 | non | bl (b:Bool) | int (i:Int) | str (x:Str) | byt (b:Array UInt8) | flt (b:UInt64) | ref (a:Addr) | ty (n:String)
 deriving DecidableEq
def RelV:V->Value->Prop
 | .non,u=>u=Value.none
 | .bl b,u=>u=Value.bool b
 | .int i,u=>∃ t,u=Value.int i t
 | .str x,u=>∃ t,u=Value.str x t
 | .byt b,u=>∃ t,u=Value.bytes b t
 | .flt b,u=>∃ t,u=Value.float b t
 | .ref a,u=>u=Value.ref a
 | .ty n,u=>u=Value.type n
abbrev Vals:List V->List Value->Prop:=Paired RelV
theorem Vals.length {xs:List V}{us:List Value}(r:Vals xs us):xs.length=us.length:=w9 r
theorem Vals.get:∀ {xs:List V} {us:List Value} {i:Nat} {x:V},Vals xs us->xs[i]?=some x->∃ u,us[i]?=some u/\RelV x u
 | _,_,_,_, .nil,e=>by simp at e
 | _,_,0,_, .cons r _,e=>by simp at e;subst e;exact ⟨_,rfl,r⟩
 | _,_,i+1,x, .cons _ t,e=>by
  obtain ⟨u,h1,h2⟩:=Vals.get (i:=i) (x:=x) t (by simpa using e)
  exact ⟨u,by simpa using h1,h2⟩
theorem Vals.set {x:V}{u:Value}(r:RelV x u):∀ {xs:List V} {us:List Value} (i:Nat),Vals xs us->Vals (xs.set i x) (us.set i u)
 | _,_,_, .nil => .nil
 | _,_,0, .cons _ t => .cons r t
 | _,_,i+1, .cons q t => .cons q (Vals.set r i t)
theorem Vals.append:∀ {xs ys:List V} {us ws:List Value},Vals xs us->Vals ys ws->Vals (xs++ys) (us++ws)
 | _,_,_,_, .nil,s=>s
 | _,_,_,_, .cons r t,s => .cons r (Vals.append t s)
theorem Vals.take:∀ {xs:List V} {us:List Value} (n:Nat),Vals xs us->Vals (xs.take n) (us.take n)
 | _,_,0,_ => .nil
 | _,_,_+1, .nil => .nil
 | _,_,n+1, .cons r t => .cons r (Vals.take n t)
theorem Vals.drop:∀ {xs:List V} {us:List Value} (n:Nat),Vals xs us->Vals (xs.drop n) (us.drop n)
 | _,_,0,r=>r
 | _,_,_+1, .nil => .nil
 | _,_,n+1, .cons _ t=>Vals.drop n t
def RelO:Option V->Option Value->Prop
 | some v,some u=>RelV v u
 | none,none=>True
 | _,_=>False
def KV {κ:Type}:List (κ × V)->List (κ × Value)->Prop:=Paired fun (p:κ × V) (q:κ × Value)=>p.1=q.1/\RelV p.2 q.2
def kV:Key->V
 | .inl i => .int i
 | .inr x => .str x
inductive HO where
 | lst (xs:List V)
 | tup (xs:List V)
 | dK (kvs:List (Key × V)) | dT (kvs:List (List Key × V))
 | set (S:Int->Bool) (n:Nat)
 | ins (C dx:Addr) (fs:List (Str × V))
 | own (x:Addr)
 | xd (fs:List (Str × V))
 | met (f x:Addr)
 | rng (lo hi:Int)
 | frz (o:Obj) (u:HO)
 | tbl (ps:Array Value)
 | ext (φ:Heap->Prop)
abbrev Hp:=Addr->Option HO
def upd (H:Hp) (a:Addr) (o:HO):Hp:=fun b=>if b=a then some o else H b
theorem aF {H:Hp}{a:Addr}{o:HO}:upd H a o a=some o:=by unfold upd;rw [if_pos rfl]
theorem aX {H:Hp}{a b:Addr}{o:HO}(h:b≠a):upd H a o b=H b:=by unfold upd;rw [if_neg h]
theorem ne_of {H:Hp}{a b:Addr}{o u:HO}(h:H a=some o)(h':H b=some u)(d:o≠u):a≠b:=by
 intro e;subst e;rw [h] at h';exact d (cu h')
theorem aR {H:Hp}{a b:Addr}{o:HO}(h:H a=some o)(h':H b=none):a≠b:=by
 intro e;subst e;rw [h] at h';cases h'
def TupN (h:Heap) (a:Addr) (items:Array Value):Prop:=∃ o,h.get? a=some o/\o.cls = .type "tuple"/\(∃ n,o.data = .seq items n)/\o.dict=none
theorem TupN.tup {h:Heap}{a:Addr}{items:Array Value}(p:TupN h a items):IsTup h a items:=let ⟨o,e,c,n,_⟩:=p;⟨o,e,c,n⟩
theorem TupN.new (h:Heap)(items:Array Value):TupN (h.push { cls := .type "tuple",data := .seq items }) h.objs.size items:=⟨_,bp _ rfl,rfl,⟨_,rfl⟩,rfl⟩
section
variable (P:Program)(w:World)
def ObjOk (H:Hp) (h:Heap) (a:Addr):HO->Prop
 | .lst xs=>xs.length<=ba/\∃ (its:List Value) (n:Nat),Vals xs its/\h.get? a=some { cls := .type "list",data := .seq its.toArray n }
 | .tup xs=>xs.length<=ba/\∃ its:List Value,Vals xs its/\TupN h a its.toArray
 | .dK kvs=>kvs.length<=ba/\(a == j5)=false/\∃ vs,KV kvs vs/\h.DictOf (dO P w) a vs
 | .dT kvs=>kvs.length<=ba/\(a == j5)=false/\∃ xs:List (List Key × Addr × Value),
   Paired (fun (p:List Key × V) (q:List Key × Addr × Value)=>p.1=q.1/\H q.2.1=some (.tup (p.1.map kV))/\RelV p.2 q.2.2) kvs xs /\
   ∃ o es ep,h.get? a=some o/\o.ExactDict/\o.data = .dict es ep/\es.toList=xs.map (entryOfKey (Au (dO P w)))/\(xs.map (·.1)).Nodup
 | .set S n=>h.SetOf (gq P w) a S n
 | .ins C dx fs=>H dx=some (.own a)/\fs.length<=1000/\dx≠a/\h.get? a=some (PySem.W.instObj C dx) /\
   ∃ mA,h.Ns1 dx mA/\(∀ f,RelO (fs.lookup f) (mA f))/\PySem.Within mA (fs.map (·.1))
 | .own _=>∃ o,h.get? a=some o
 | .xd fs=>∃ mA,h.Ns1 a mA/\∀ f,RelO (fs.lookup f) (mA f)
 | .rng lo hi=>∃ t u v,h.get? a=some { cls := .type "range",data := .fields #[.int lo t, .int hi u, .int 1 v] }
 | .frz o u=>h.get? a=some o/\ObjOk H h a u
 | .tbl ps=>h.get? a=some { cls := .none,data := .fields ps }
 | .met f x=>h.get? a=some (we (.ref f) (.ref x))
 | .ext φ=>φ h/\(∃ o,h.get? a=some o)/\∀ h1 h2:Heap,φ h1->(∀ o,h1.get? a=some o->h2.get? a=some o)->φ h2
def HOk (H:Hp) (h:Heap):Prop:=∀ a o,H a=some o->ObjOk P w H h a o
end
section
variable {P:Program}{w:World}{H H':Hp}{h h':Heap}{a:Addr}{o:HO}
theorem ObjOk.lt (x:ObjOk P w H h a o):a<h.objs.size:=by
 cases o with
 | lst xs=>obtain ⟨_,_,_,_,e⟩:=x;exact br e
 | tup xs=>obtain ⟨_,_,_,p⟩:=x;exact p.tup.lt
 | dK kvs=>obtain ⟨_,_,_,_,o,_,_,e,_⟩:=x;exact br e
 | dT kvs=>obtain ⟨_,_,_,_,o,_,_,e,_⟩:=x;exact br e
 | set S n=>obtain ⟨o,_,_,_,e,_⟩:=x;exact br e
 | ins C dx fs=>obtain ⟨_,_,_,e,_⟩:=x;exact br e
 | own y=>obtain ⟨_,e⟩:=x;exact br e
 | xd fs=>obtain ⟨_,⟨_,_,_,e,_⟩,_⟩:=x;exact br e
 | rng lo hi=>obtain ⟨_,_,_,e⟩:=x;exact br e
 | frz ob u=>obtain ⟨e,_⟩:=x;exact br e
 | tbl ps=>exact br (show h.get? a=some _ from x)
 | met f y=>exact br (show h.get? a=some _ from x)
 | ext φ=>obtain ⟨_,⟨_,e⟩,_⟩:=x;exact br e
theorem Paired.mapP {α β:Type}{F G:α->β->Prop}:∀ {l₁:List α} {l₂:List β},Paired F l₁ l₂->(∀ a b,F a b->G a b)->Paired G l₁ l₂
 | _,_, .nil,_ => .nil
 | _,_, .cons r t,f => .cons (f _ _ r) (Paired.mapP t f)
theorem ObjOk.stay (x:ObjOk P w H h a o)(k:∀ b u,(b=a\/H b=some (.own a))->h.get? b=some u->h'.get? b=some u)
  (ho:∀ b,H b=some (.own a)->H' b=some (.own a)) (ht:∀ b xs,H b=some (.tup xs)->H' b=some (.tup xs)):ObjOk P w H' h' a o:=by
 induction o with
 | lst xs=>obtain ⟨z,its,n,r,e⟩:=x;exact ⟨z,its,n,r,k _ _ (.inl rfl) e⟩
 | tup xs=>obtain ⟨z,its,r,ob,e,c⟩:=x;exact ⟨z,its,r,ob,k _ _ (.inl rfl) e,c⟩
 | dK kvs=>obtain ⟨z,y,vs,r,ob,es,ep,e,c⟩:=x;exact ⟨z,y,vs,r,ob,es,ep,k _ _ (.inl rfl) e,c⟩
 | dT kvs=>
  obtain ⟨z,y,xs,r,ob,es,ep,e,c⟩:=x
  exact ⟨z,y,xs,Paired.mapP r fun p q z=>⟨z.1,ht _ _ z.2.1,z.2.2⟩,ob,es,ep,k _ _ (.inl rfl) e,c⟩
 | set S n=>obtain ⟨ob,es,ep,t,e,c⟩:=x;exact ⟨ob,es,ep,t,k _ _ (.inl rfl) e,c⟩
 | ins C dx fs=>
  obtain ⟨d,z,ne,e,mA,⟨od,es,ep,e2,c⟩,r⟩:=x
  exact ⟨ho _ d,z,ne,k _ _ (.inl rfl) e,mA,⟨od,es,ep,k _ _ (.inr d) e2,c⟩,r⟩
 | own y=>obtain ⟨ob,e⟩:=x;exact ⟨ob,k _ _ (.inl rfl) e⟩
 | xd fs=>obtain ⟨mA,⟨od,es,ep,e,c⟩,r⟩:=x;exact ⟨mA,⟨od,es,ep,k _ _ (.inl rfl) e,c⟩,r⟩
 | rng lo hi=>obtain ⟨t,u,v,e⟩:=x;exact ⟨t,u,v,k _ _ (.inl rfl) e⟩
 | frz ob u ih=>obtain ⟨e,q⟩:=x;exact ⟨k _ _ (.inl rfl) e,ih q⟩
 | tbl ps=>
  have e:h.get? a=some { cls := .none,data := .fields ps }:=x
  show h'.get? a=some { cls := .none,data := .fields ps }
  exact k a _ (.inl rfl) e
 | met f y=>
  have e:h.get? a=some (we (.ref f) (.ref y)):=x
  show h'.get? a=some (we (.ref f) (.ref y))
  exact k a _ (.inl rfl) e
 | ext φ=>obtain ⟨p,⟨o,e⟩,st⟩:=x;exact ⟨st _ _ p fun o q=>k _ _ (.inl rfl) q,⟨o,k _ _ (.inl rfl) e⟩,st⟩
theorem HOk.lt (x:HOk P w H h)(e:H a=some o):a<h.objs.size:=(x a o e).lt
theorem HOk.fresh (x:HOk P w H h)(e:h.objs.size<=a):H a=none:=by
 cases q:H a with
 | none=>rfl
 | some u=>exact absurd (cv (x.lt q) e) (kn _)
theorem HOk.kept (x:HOk P w H h)(k:∀ b u,h.get? b=some u->h'.get? b=some u):HOk P w H h':=fun a o e=>
 (x a o e).stay (fun b u _ q=>k b u q) (fun _ q=>q) fun _ _ q=>q
theorem HOk.laid (x:HOk P w H h)(k:∀ b u,h.get? b=some u->h'.get? b=some u)(hp:h.objs.size<=a)(new:ObjOk P w (upd H a o) h' a o):HOk P w (upd H a o) h':=fun b u e=>by
 have hn:=x.fresh hp
 by_cases hb:b=a
 ·subst hb;rw [aF] at e;cases e;exact new
 ·rw [aX hb] at e
  exact (x b u e).stay (fun c v _ q=>k c v q) (fun c q=>by rw [aX (aR q hn)];exact q) fun c xs q=>by rw [aX (aR q hn)];exact q
end
def Rd (H:Hp) (a:Addr) (u:HO):Prop:=H a=some u\/∃ o,H a=some (.frz o u)
theorem Rd.ok {P:Program}{w:World}{H:Hp}{h:Heap}{a:Addr}{u:HO}(r:Rd H a u)(x:HOk P w H h):ObjOk P w H h a u:=by
 rcases r with r | ⟨o,r⟩
 ·exact x a u r
 ·obtain ⟨_,q⟩:=x a _ r
  exact q
def Mut:Option HO->Prop
 | some (.lst _)=>True
 | some (.dK _)=>True
 | some (.dT _)=>True
 | some (.set _ _)=>True
 | some (.ins _ _ _)=>True
 | some (.ext _)=>True
 | _=>False
section
variable {P:Program}{w:World}{H:Hp}{h h':Heap}{x e:Addr}{o':HO}
theorem HOk.write (ok:HOk P w H h)(mu:Mut (H x))(he:e=x\/H e=some (.own x))(k:∀ b u,b≠e->h.get? b=some u->h'.get? b=some u)(heo:∃ u,h'.get? e=some u)
  (new:ObjOk P w (upd H x o') h' x o'):HOk P w (upd H x o') h':=fun b u q=>by
 have nown:∀ c y,H c=some (.own y)->c≠x:=fun c y r z=>by subst z;rw [r] at mu;exact mu
 have ntup:∀ c xs,H c=some (.tup xs)->c≠x:=fun c xs r z=>by subst z;rw [r] at mu;exact mu
 by_cases hb:b=x
 ·subst hb;rw [aF] at q;cases q;exact new
 ·rw [aX hb] at q
  by_cases hbe:b=e
  ·have q':H b=some (.own x):=by
    rcases he with z | z
    ·exact absurd (hbe.trans z) hb
    ·rw [hbe];exact z
   rw [q] at q';cases q'
   obtain ⟨v,hv⟩:=heo
   exact ⟨v,by rw [hbe];exact hv⟩
  ·refine (ok b u q).stay (fun c v hc r=>k c v ?_ r) (fun c r=>by rw [aX (nown c b r)];exact r) fun c xs r=>by rw [aX (ntup c xs r)];exact r
   rcases hc with rfl | hc
   ·exact hbe
   ·rintro rfl
    rcases he with z | z
    ·exact nown c b hc z
    ·rw [hc] at z;cases z;exact hb rfl
end
structure Un (fs ex:List Addr)(H H':Hp)(h h':Heap):Prop where
 keep:∀ b o,h.get? b=some o->H b=none->b∉fs->b∉ex->h'.get? b=some o
 slot:∀ b o,h.get? b=some o->H b=none->b∈fs->b∉ex->∃ sl,h'.get? b=some { o with slots:=sl }
 free:∀ b o,h.get? b=some o->H b=none->b∉ex->H' b=none
 there:∀ b o,h.get? b=some o->b∉ex->∃ o',h'.get? b=some o'
 tups:∀ b xs,H b=some (.tup xs)->H' b=some (.tup xs)
 frzs:∀ b o u,H b=some (.frz o u)->H' b=some (.frz o u)
 tbls:∀ b ps,H b=some (.tbl ps)->∃ more,H' b=some (.tbl (ps++more))
section
variable {fs fs' ex ex':List Addr}{H H1 H2:Hp}{h h1 h2 h':Heap}{a x e:Addr}{o:HO}
theorem Un.any (u:Un fs ex H H1 h h1){b:Addr}{ob:Obj}(q:h.get? b=some ob)(n:H b=none)(hx:b∉ex):∃ sl,h1.get? b=some { ob with slots:=sl }:=by
 by_cases hb:b∈fs
 ·exact u.slot b ob q n hb hx
 ·exact ⟨ob.slots,u.keep b ob q n hb hx⟩
theorem Un.trans (a:Un fs ex H H1 h h1)(b:Un fs ex H1 H2 h1 h2):Un fs ex H H2 h h2 where
 keep:=fun c ob q n hc hx=>b.keep c ob (a.keep c ob q n hc hx) (a.free c ob q n hx) hc hx
 slot:=fun c ob q n hc hx=>by
  obtain ⟨sl,e1⟩:=a.slot c ob q n hc hx
  obtain ⟨sl',e2⟩:=b.slot c _ e1 (a.free c ob q n hx) hc hx
  exact ⟨sl',e2⟩
 free:=fun c ob q n hx=>by
  obtain ⟨o',e1⟩:=a.there c ob q hx
  exact b.free c o' e1 (a.free c ob q n hx) hx
 there:=fun c ob q hx=>by
  obtain ⟨o',e1⟩:=a.there c ob q hx
  exact b.there c o' e1 hx
 tups:=fun c xs q=>b.tups c xs (a.tups c xs q)
 frzs:=fun c ob xs q=>b.frzs c ob xs (a.frzs c ob xs q)
 tbls:=fun c ps q=>by
  obtain ⟨m1,e1⟩:=a.tbls c ps q
  obtain ⟨m2,e2⟩:=b.tbls c _ e1
  exact ⟨m1++m2,by rw [e2,Array.append_assoc]⟩
theorem Un.kept (k:∀ b u,h.get? b=some u->h'.get? b=some u):Un fs ex H H h h':=
 ⟨fun b ob q _ _ _=>k b ob q,fun b ob q _ _ _=>⟨ob.slots,k b ob q⟩,fun _ _ _ n _=>n,fun b ob q _=>⟨ob,k b ob q⟩,fun _ _ q=>q,fun _ _ _ q=>q,fun _ ps q=>⟨#[],by rw [q];simp⟩⟩
theorem Un.refl:Un fs ex H H h h:=Un.kept fun _ _ q=>q
theorem Un.laid (k:∀ b u,h.get? b=some u->h'.get? b=some u)(hp:h.objs.size<=a)(hn:H a=none):Un fs ex H (upd H a o) h h' where
 keep:=fun b u q _ _ _=>k b u q
 slot:=fun b u q _ _ _=>⟨u.slots,k b u q⟩
 free:=fun b u q n _=>by rw [aX (d0 (cv (br q) hp))];exact n
 there:=fun b u q _=>⟨u,k b u q⟩
 tups:=fun b xs q=>by rw [aX (aR q hn)];exact q
 frzs:=fun b u xs q=>by rw [aX (aR q hn)];exact q
 tbls:=fun b ps q=>⟨#[],by rw [aX (aR q hn),q];simp⟩
theorem Un.write (mu:Mut (H x))(he:e=x\/H e=some (.own x))(k:∀ b u,b≠e->h.get? b=some u->h'.get? b=some u)(heo:∃ u,h'.get? e=some u):Un fs ex H (upd H x o) h h':=by
 have hx:∀ b,H b=none->b≠x:=fun b n z=>by subst z;rw [n] at mu;exact mu
 have hb:∀ b,H b=none->b≠e:=fun b n z=>by
  subst z
  rcases he with r | r
  ·exact hx b n r
  ·rw [n] at r;cases r
 have hm:∀ b u,H b=some u->¬ Mut (some u)->b≠x:=fun b u q nm z=>by subst z;rw [q] at mu;exact nm mu
 refine ⟨fun b u q n _ _=>k b u (hb b n) q,fun b u q n _ _=>⟨u.slots,k b u (hb b n) q⟩,fun b u q n _=>by rw [aX (hx b n)];exact n,fun b u q _=>?_,
  fun b xs q=>by rw [aX (hm b _ q fun z=>z)];exact q,fun b u xs q=>by rw [aX (hm b _ q fun z=>z)];exact q,fun b ps q=>⟨#[],by rw [aX (hm b _ q fun z=>z),q];simp⟩⟩
 by_cases hbe:b=e
 ·subst hbe;exact heo
 ·exact ⟨u,k b u hbe q⟩
end
def trk (h:Heap) (H:Hp):List Addr:=(ar h.objs.size).filter fun a=>(H a).isSome
def aEa (h:Heap) (H:Hp):Heap:=PySem.W.hideAll h (trk h H)
theorem aBb (h:Heap)(H:Hp):(aEa h H).objs.size=h.objs.size:=PySem.W.hideAll_size _ _
theorem aDR {h:Heap}{H:Hp}{b:Addr}{o:Obj}(e:h.get? b=some o)(n:H b=none):(aEa h H).get? b=some o:=
 Aa _ e fun hm=>by
  have q:(H b).isSome=true:=(j7.mp hm).2
  rw [n] at q;simp at q
theorem aFT {h:Heap}{H:Hp}{b:Addr}{o:Obj}(e:(aEa h H).get? b=some o):h.get? b=some o/\H b=none:=by
 have e':h.get? b=some o:=PySem.W.of_hideAll (trk h H) e
 refine ⟨e',?_⟩
 cases q:H b with
 | none=>rfl
 | some x=>
  have hm:b∈trk h H:=j7.mpr ⟨cp.mpr (br e'),by simp [q]⟩
  have z:(aEa h H).get? b=none:=PySem.W.hideAll_none (trk h H) hm
  rw [z] at e;cases e
structure Mod (K:ae)(mg:Str->Option Value)(base:Heap):Prop where
 kin:K.In base
 glob:base.Ns bg mg
 blt:∃ mb,base.Ns AI mb/\∀ x:Str,x≠"__name__"->mb x=fi x
 nolimit:base.NoLimit
structure Cx where
 prog:Program
 w:World
 K:ae
 mg:Str->Option Value
 base:Heap
 A:Around
 N:List Str
 s₀:Shared
 H₀:Hp
 env:Env
 outer:List Env
 stack:List Env
 ex:List Addr
 fn:Str->Bool
 calm:Bool
 pn:List (Addr × Obj)
 xe:Value->Shared->Prop
def frs (l:List Env):List Addr:=l.filterMap (·.frame)
abbrev Cx.fs (X:Cx):List Addr:=frs X.outer
def Vis (sc:Scope) (x:Str):Prop:=sc.names.lookup x=some .local\/sc.names.lookup x=some .cell\/sc.names.lookup x=some .free
def Loc (sc:Scope) (x:Str):Prop:=sc.names.lookup x=some .local\/sc.names.lookup x=some .cell
def Look (env:Env) (h:Heap) (m:Str->Option Value) (x:Str) (u:Value):Prop:=
 (env.kindOf x=some .local/\m x=some u)\/((env.kindOf x=some .cell\/env.kindOf x=some .free)/\∃ c,env.cells.lookup x=some c/\h.IsCell c (some u))
structure Cx.Ok (X:Cx):Prop where
 mod:Mod X.K X.mg X.base
 kind:X.env.scope.kind = .function
 glob:X.env.globals=bg
 blt:X.env.builtins=AI
 above:X.s₀.heap.objs.size<=X.env.locals
 inj:∀ x y c,X.env.cells.lookup x=some c->X.env.cells.lookup y=some c->x=y
 has:∀ x,(X.env.kindOf x=some .cell\/X.env.kindOf x=some .free)->∃ c,X.env.cells.lookup x=some c
 cab:∀ x c,X.fn x=true->X.env.cells.lookup x=some c->X.s₀.heap.objs.size<=c
 hd:X.calm=true->X.A.handled=none
 frames:X.A.frames=some X.stack
 stk:X.stack=X.outer\/(X.stack=X.env :: X.outer/\X.env.frame=some X.env.locals)
 exf:∀ b∈X.ex,b≠X.env.locals/\∀ x c,X.env.cells.lookup x=some c->c≠b
 bs:∀ b o,X.base.get? b=some o->X.s₀.heap.get? b=some o/\X.H₀ b=none
 bsz:X.base.objs.size<=X.s₀.heap.objs.size
 noex:∀ b o,X.base.get? b=some o->b∉X.ex
 exfs:∀ b∈X.ex,b∉X.fs
 funs:X.s₀.heap.FunFrames X.base X.outer
 frf:∀ b∈X.fs,X.H₀ b=none
structure Inv (X:Cx)(pins:List (Addr × Obj))(σ:List (Option V))(H:Hp)(s:Shared):Prop where
 ok:X.Ok
 os:s.os=X.s₀.os
 bare:v8 s.gens
 base:Un X.fs X.ex X.H₀ H X.s₀.heap s.heap
 loc:∃ m,s.heap.Ns X.env.locals m/\∀ (i:Nat) (x:Str) (v:V),X.N[i]?=some x->σ[i]?=some (some v)->Vis X.env.scope x->∃ u,RelV v u/\Look X.env s.heap m x u
 cell:∀ x c,X.env.cells.lookup x=some c->∃ v,s.heap.IsCell c v
 free:H X.env.locals=none
 freeC:∀ x c,X.env.cells.lookup x=some c->H c=none
 pin:∀ p∈X.pn++pins,s.heap.get? p.1=some p.2/\H p.1=none/\p.1≠X.env.locals/\p.1∉X.fs/\∀ v,p.2.data ≠ .cell v
 hok:HOk X.prog X.w H s.heap
 len:σ.length=X.N.length
section
variable {X:Cx}{pins:List (Addr × Obj)}{σ:List (Option V)}{H H':Hp}{s:Shared}{h':Heap}
theorem Cx.Ok.nofr (ok:X.Ok){b:Addr}{o:Obj}(e:X.base.get? b=some o):b∉X.fs:=fun hb=>by
 have:=(ok.funs.mem hb).1
 rw [e] at this;cases this
theorem Inv.bs (I:Inv X pins σ H s):∀ b o,X.base.get? b=some o->s.heap.get? b=some o/\H b=none:=fun b o e=>
 ⟨I.base.keep b o (I.ok.bs b o e).1 (I.ok.bs b o e).2 (I.ok.nofr e) (I.ok.noex b o e),I.base.free b o (I.ok.bs b o e).1 (I.ok.bs b o e).2 (I.ok.noex b o e)⟩
theorem Inv.bk (I:Inv X pins σ H s):∀ b o,X.base.get? b=some o->s.heap.get? b=some o:=fun b o e=>(I.bs b o e).1
theorem Inv.mod (I:Inv X pins σ H s):Mod X.K X.mg X.base:=I.ok.mod
theorem Inv.kIn (I:Inv X pins σ H s):X.K.In s.heap:=I.ok.mod.kin.keeps I.bk
theorem Inv.lt (I:Inv X pins σ H s):X.env.locals<s.heap.objs.size:=let ⟨_,hn,_⟩:=I.loc;hn.lt
theorem Inv.sz (I:Inv X pins σ H s):X.s₀.heap.objs.size<=s.heap.objs.size:=et I.ok.above (mi I.lt)
theorem Inv.nofs (I:Inv X pins σ H s){a:Addr}(h:s.heap.objs.size<=a):a∉X.fs:=fun hb=>by
 obtain ⟨_,o,ho,_⟩:=I.ok.funs.mem hb
 exact absurd (cv (br ho) (et I.sz h)) (kn _)
theorem Inv.cne (I:Inv X pins σ H s):∀ x c,X.env.cells.lookup x=some c->c≠X.env.locals:=fun x c e z=>by
 obtain ⟨v,o,ho,hd⟩:=I.cell x c e
 obtain ⟨m,⟨o',es,ep,ho',hd',_⟩,_⟩:=I.loc
 rw [z,ho'] at ho;cases ho;rw [hd'] at hd;cases hd
theorem Inv.funs (I:Inv X pins σ H s):s.heap.FunFrames X.base X.outer:=by
 have all:∀ (l:List Env),(∀ b∈frs l,b∈X.fs)->X.s₀.heap.FunFrames X.base l->s.heap.FunFrames X.base l:=by
  intro l
  induction l with
  | nil=>intro _ _;trivial
  | cons env r ih=>
   intro hs hl
   obtain ⟨hk,⟨L,o,hf,hn,ho,hd⟩,hr⟩:=hl
   have hL:L∈X.fs:=hs L (by unfold frs;rw [uk,hf];exact cg)
   obtain ⟨sl,e⟩:=I.base.slot L o ho (I.ok.frf L hL) hL fun z=>I.ok.exfs L z hL
   exact ⟨hk,⟨L,_,hf,hn,e,hd⟩,ih (fun b hb=>hs b (by unfold frs;rw [uk,hf];exact av _ hb)) hr⟩
 exact all X.outer (fun _ hb=>hb) I.ok.funs
theorem Inv.stack (I:Inv X pins σ H s):s.heap.FunFrames X.base X.stack:=by
 rcases I.ok.stk with e | ⟨e,hf⟩
 ·rw [e];exact I.funs
 ·rw [e]
  obtain ⟨m,hn,_⟩:=I.loc
  refine .cons (by rw [I.ok.kind];decide) hf hn ?_ I.funs
  exact Heap.get?_none_of_le (et I.ok.bsz I.ok.above)
theorem Inv.stkSub (I:Inv X pins σ H s):∀ b∈frs X.stack,b∈X.env.locals :: X.fs:=fun b hb=>by
 rcases I.ok.stk with e | ⟨e,hf⟩
 ·rw [e] at hb;exact av _ hb
 ·rw [e] at hb
  unfold frs at hb
  rw [uk,hf] at hb
  exact hb
theorem Inv.stkFree (I:Inv X pins σ H s):∀ b∈frs X.stack,H b=none:=fun b hb=>by
 rcases bj.mp (I.stkSub b hb) with e | hb
 ·rw [e];exact I.free
 ·obtain ⟨_,o,ho,_⟩:=I.ok.funs.mem hb
  exact I.base.free b o ho (I.ok.frf b hb) fun z=>I.ok.exfs b z hb
theorem Inv.step {g':Array GenState}{t':Nat}{d':Drawn}{ch:List Addr}(I:Inv X pins σ H s)
  (hch:∀ b∈ch,(b∈X.ex\/X.s₀.heap.objs.size<=b)/\b≠X.env.locals/\(∀ x c,X.env.cells.lookup x=some c->c≠b)/\∀ p∈X.pn++pins,p.1≠b)
  (keep:∀ b o,b≠X.env.locals->b∉X.fs->b∉ch->s.heap.get? b=some o->H b=none->h'.get? b=some o)
  (slot:∀ b o,b≠X.env.locals->b∈X.fs->b∉ch->s.heap.get? b=some o->H b=none->∃ sl,h'.get? b=some { o with slots:=sl }) (free:∀ b o,b∉ch->s.heap.get? b=some o->H b=none->H' b=none)
  (there:∀ b o,b∉ch->s.heap.get? b=some o->∃ o',h'.get? b=some o')
  (tups:∀ b xs,H b=some (.tup xs)->H' b=some (.tup xs)) (frzs:∀ b o u,H b=some (.frz o u)->H' b=some (.frz o u)) (tbls:∀ b ps,H b=some (.tbl ps)->∃ more,H' b=some (.tbl (ps++more)))
  (ns:∀ m,s.heap.Ns X.env.locals m->h'.Ns X.env.locals m) (hok:HOk X.prog X.w H' h') (hg:v8 g') :
  Inv X pins σ H' { s with heap:=h',gens:=g',drawn:=d',toks:=t' }:=by
 have neL:∀ b o,X.s₀.heap.get? b=some o->b≠X.env.locals:=fun b o e=>d0 (cv (br e) I.ok.above)
 have neC:∀ b o,X.s₀.heap.get? b=some o->b∉X.ex->b∉ch:=fun b o e hx hb=>by
  rcases (hch b hb).1 with z | z
  ·exact hx z
  ·exact absurd (cv (br e) z) (kn _)
 have cellK:∀ x c,X.env.cells.lookup x=some c->∀ v,s.heap.IsCell c v->h'.IsCell c v:=fun x c e v ⟨o,ho,hd⟩=>by
  have nch:c∉ch:=fun z=>(hch c z).2.2.1 x c e rfl
  by_cases hc:c∈X.fs
  ·obtain ⟨sl,q⟩:=slot c o (I.cne x c e) hc nch ho (I.freeC x c e)
   exact ⟨_,q,hd⟩
  ·exact ⟨o,keep c o (I.cne x c e) hc nch ho (I.freeC x c e),hd⟩
 refine ⟨I.ok,I.os,hg,⟨fun b o e n hb hx=>?_,fun b o e n hb hx=>?_,fun b o e n hx=>?_,fun b o e hx=>?_,fun b xs e=>tups b xs (I.base.tups b xs e),fun b o xs e=>frzs b o xs (I.base.frzs b o xs e),fun b ps e=>?_⟩,?_,fun x c e=>?_,?_,fun x c e=>?_,fun p hp=>?_,hok,I.len⟩
 ·exact keep b o (neL b o e) hb (neC b o e hx) (I.base.keep b o e n hb hx) (I.base.free b o e n hx)
 ·obtain ⟨sl,e1⟩:=I.base.slot b o e n hb hx
  obtain ⟨sl',e2⟩:=slot b _ (neL b o e) hb (neC b o e hx) e1 (I.base.free b o e n hx)
  exact ⟨sl',e2⟩
 ·obtain ⟨o',e1⟩:=I.base.there b o e hx
  exact free b o' (neC b o e hx) e1 (I.base.free b o e n hx)
 ·obtain ⟨o',e1⟩:=I.base.there b o e hx
  exact there b o' (neC b o e hx) e1
 ·obtain ⟨m1,e1⟩:=I.base.tbls b ps e
  obtain ⟨m2,e2⟩:=tbls b _ e1
  exact ⟨m1++m2,by rw [e2,Array.append_assoc]⟩
 ·obtain ⟨m,hn,hl⟩:=I.loc
  refine ⟨m,ns m hn,fun i x v e1 e2 e3=>?_⟩
  obtain ⟨u,r,l⟩:=hl i x v e1 e2 e3
  refine ⟨u,r,?_⟩
  rcases l with l | ⟨k,c,e,z⟩
  ·exact .inl l
  ·exact .inr ⟨k,c,e,cellK x c e _ z⟩
 ·obtain ⟨v,z⟩:=I.cell x c e
  exact ⟨v,cellK x c e v z⟩
 ·obtain ⟨m,⟨o,_,_,ho,_⟩,_⟩:=I.loc
  exact free _ o (fun z=>(hch _ z).2.1 rfl) ho I.free
 ·obtain ⟨v,o,ho,hd⟩:=I.cell x c e
  exact free c o (fun z=>(hch c z).2.2.1 x c e rfl) ho (I.freeC x c e)
 ·obtain ⟨e,n,ne,nf,d⟩:=I.pin p hp
  have nch:p.1∉ch:=fun z=>(hch p.1 z).2.2.2 p hp rfl
  exact ⟨keep p.1 p.2 ne nf nch e n,free p.1 p.2 nch e n,ne,nf,d⟩
theorem Inv.un {t':Nat}(I:Inv X pins σ H s)(u:Un X.fs [] H H' s.heap h')(hok:HOk X.prog X.w H' h'):Inv X pins σ H' { s with heap:=h',toks:=t' }:=by
 obtain ⟨m,⟨o,es,ep,ho,r⟩,_⟩:=id I.loc
 obtain ⟨sl,hL⟩:=u.any ho I.free (by simp)
 exact I.step (g':=s.gens) (d':=s.drawn) (ch:=[]) (fun _ z=>nomatch z) (fun b o _ hb _ e n=>u.keep b o e n hb (by simp)) (fun b o _ hb _ e n=>u.slot b o e n hb (by simp)) (fun b o _ e n=>u.free b o e n (by simp)) (fun b o _ e=>u.there b o e (by simp)) u.tups u.frzs u.tbls (fun m' hm=>by
  obtain ⟨o',es',ep',ho',r'⟩:=hm
  rw [ho] at ho';cases ho'
  exact ⟨_,es',ep',hL,r'⟩) hok I.bare
theorem Inv.call {g':Array GenState}{t':Nat}{d':Drawn}{ch:List Addr}(I:Inv X pins σ H s)(u:Un (frs X.stack) ch H H' s.heap h')(hok:HOk X.prog X.w H' h')(hg:v8 g')
  (hch:∀ b∈ch,(b∈X.ex\/X.s₀.heap.objs.size<=b)/\b≠X.env.locals/\(∀ x c,X.env.cells.lookup x=some c->c≠b)/\∀ p∈X.pn++pins,p.1≠b) :
  Inv X pins σ H' { s with heap:=h',gens:=g',drawn:=d',toks:=t' }:=by
 obtain ⟨m,⟨o,es,ep,ho,r⟩,_⟩:=id I.loc
 obtain ⟨sl,hL⟩:=u.any ho I.free fun z=>(hch _ z).2.1 rfl
 exact I.step (ch:=ch) hch (fun b o hL hb hc e n=>u.keep b o e n (fun z=>(bj.mp (I.stkSub b z)).elim hL hb) hc) (fun b o _ _ hc e n=>u.any e n hc) (fun b o hc e n=>u.free b o e n hc) (fun b o hc e=>u.there b o e hc) u.tups u.frzs u.tbls (fun m' hm=>by
  obtain ⟨o',es',ep',ho',r'⟩:=hm
  rw [ho] at ho';cases ho'
  exact ⟨_,es',ep',hL,r'⟩) hok hg
theorem Inv.turned {t':Nat}{it:Addr}(I:Inv X pins σ H s)(k:∀ b o,b≠it->s.heap.get? b=some o->h'.get? b=some o)(hn:H it=none)(hL:it≠X.env.locals)
  (h1:it∈X.ex\/X.s₀.heap.objs.size<=it) (h2:∀ x c,X.env.cells.lookup x=some c->c≠it) (h3:∀ p∈X.pn++pins,p.1≠it):Inv X pins σ H { s with heap:=h',toks:=t' }:=by
 have nit:∀ b u,H b=some u->b≠it:=fun b u e z=>by rw [z,hn] at e;cases e
 refine I.step (g':=s.gens) (d':=s.drawn) (ch:=[it]) (fun b hb=>?_) (fun b o _ _ hc e _=>k b o (fun z=>hc (by simp [z])) e) (fun b o _ _ hc e _=>⟨o.slots,k b o (fun z=>hc (by simp [z])) e⟩) (fun _ _ _ _ n=>n)
  (fun b o hc e=>⟨o,k b o (fun z=>hc (by simp [z])) e⟩) (fun _ _ e=>e) (fun _ _ _ e=>e) (fun b ps e=>⟨#[],by rw [e];simp⟩) (fun m hm=>?_) (fun b u e=>?_) I.bare
 ·have e:b=it:=by simpa using hb
  subst e
  exact ⟨h1,hL,h2,h3⟩
 ·obtain ⟨o,es,ep,ho,r⟩:=hm
  exact ⟨o,es,ep,k _ o (jk hL) ho,r⟩
 ·refine (I.hok b u e).stay (fun c v hc q=>k c v ?_ q) (fun _ q=>q) fun _ _ q=>q
  rcases hc with z | z
  ·rw [z];exact nit b u e
  ·exact nit c _ z
theorem Inv.tok (I:Inv X pins σ H s)(t:Nat):Inv X pins σ H { s with toks:=t }:=I.un (h':=s.heap) (t':=t) Un.refl I.hok
theorem Inv.kept {t':Nat}(I:Inv X pins σ H s)(k:∀ b u,s.heap.get? b=some u->h'.get? b=some u):Inv X pins σ H { s with heap:=h',toks:=t' }:=I.un (Un.kept k) (I.hok.kept k)
theorem Inv.laid {a:Addr}{o:HO}{t':Nat}(I:Inv X pins σ H s)(k:∀ b u,s.heap.get? b=some u->h'.get? b=some u)(hp:s.heap.objs.size<=a)(new:ObjOk X.prog X.w (upd H a o) h' a o) :
  Inv X pins σ (upd H a o) { s with heap:=h',toks:=t' }:=I.un (Un.laid k hp (I.hok.fresh hp)) (I.hok.laid k hp new)
theorem Inv.write {x e:Addr}{o:HO}{t':Nat}(I:Inv X pins σ H s)(mu:Mut (H x))(he:e=x\/H e=some (.own x))(k:∀ b u,b≠e->s.heap.get? b=some u->h'.get? b=some u)(heo:∃ u,h'.get? e=some u)
  (new:ObjOk X.prog X.w (upd H x o) h' x o):Inv X pins σ (upd H x o) { s with heap:=h',toks:=t' }:=I.un (Un.write mu he k heo) (I.hok.write mu he k heo new)
theorem Inv.pins_of {pins':List (Addr × Obj)}(I:Inv X pins σ H s)(h:∀ p∈pins',s.heap.get? p.1=some p.2/\H p.1=none/\p.1≠X.env.locals/\p.1∉X.fs/\∀ v,p.2.data ≠ .cell v):Inv X pins' σ H s:=
 ⟨I.ok,I.os,I.bare,I.base,I.loc,I.cell,I.free,I.freeC,fun p hp=>(de.mp hp).elim (fun z=>I.pin p (d5 _ z)) (h p),I.hok,I.len⟩
theorem tG {N:List Str}(hN:N.Nodup){i j:Nat}{x:Str}(a:N[i]?=some x)(b:N[j]?=some x):i=j:=by
 obtain ⟨h1,e1⟩:=ai.mp a
 obtain ⟨h2,e2⟩:=ai.mp b
 exact (List.getElem_inj hN).mp (e1.trans e2.symm)
theorem vU {M:Model}{A:Around}{E:Value->Shared->Prop}{i:Nat}{x:Str}{v:V}{u:Value}{Q:Unit->Shared->Prop}(I:Inv X pins σ H s)(hN:X.N.Nodup)(hi:X.N[i]?=some x)(hx:Loc X.env.scope x)(r:RelV v u)
  (h:∀ s',Inv X pins (σ.set i (some v)) H s'->(∃ a,iu a s.heap s'.heap/\(a=X.env.locals\/X.env.cells.lookup x=some a))->Q () s') (hf:X.fn x=true\/X.env.scope.names.lookup x=some .local:=by first | exact .inl rfl | exact .inr rfl | assumption):wpAny M A (storeName X.env x u) Q E s:=by
 obtain ⟨m,hn,hl⟩:=id I.loc
 have hcls:(X.env.scope.kind == .class || (X.env.scope.kind == .module && X.env.locals != X.env.globals))=false:=by rw [I.ok.kind];rfl
 have hiσ:i<σ.length:=by rw [I.len];exact (ai.mp hi).1
 have cne:=I.cne
 have tracked:∀ {a:Addr} {h':Heap},(∃ o,s.heap.get? a=some o/\H a=none)->iu a s.heap h'->HOk X.prog X.w H h':=fun {a h'} ha hs b ob e=>by
  obtain ⟨_,_,hfree⟩:=ha
  refine (I.hok b ob e).stay (fun c w' hc q=>(hs.2 c ?_).trans q) (fun _ q=>q) fun _ _ q=>q
  rintro rfl
  rcases hc with rfl | hc
  ·rw [hfree] at e;cases e
  ·rw [hfree] at hc;cases hc
 rcases hx with hk | hk
 ·refine wpAny_storeName_local hk hn (fun h' hn' hs=>?_) hcls
  obtain ⟨oL,_,_,hoL,_⟩:=id hn
  refine h _ ⟨I.ok,I.os,I.bare,⟨fun b o e n hb hx=>?_,fun b o e n hb hx=>?_,I.base.free,fun b o e hx=>?_,I.base.tups,I.base.frzs,I.base.tbls⟩,⟨_,hn',fun j y v' e1 e2 e3=>?_⟩,fun y c e=>?_,I.free,I.freeC,fun p hp=>?_,tracked ⟨oL,hoL,I.free⟩ hs,by simpa using I.len⟩ ⟨_,hs, .inl rfl⟩
  ·exact (hs.2 b (d0 (cv (br e) I.ok.above))).trans (I.base.keep b o e n hb hx)
  ·obtain ⟨sl,e1⟩:=I.base.slot b o e n hb hx
   exact ⟨sl,(hs.2 b (d0 (cv (br e) I.ok.above))).trans e1⟩
  ·obtain ⟨o',e1⟩:=I.base.there b o e hx
   exact ⟨o',(hs.2 b (d0 (cv (br e) I.ok.above))).trans e1⟩
  ·by_cases hj:j=i
   ·subst hj
    rw [hi] at e1;cases e1
    rw [gm hiσ] at e2
    cases e2
    exact ⟨u,r, .inl ⟨hk,by simp⟩⟩
   ·rw [gp (jk hj)] at e2
    obtain ⟨u',r',q⟩:=hl j y v' e1 e2 e3
    refine ⟨u',r',?_⟩
    rcases q with ⟨k,e⟩ | ⟨k,c,e,z⟩
    ·refine .inl ⟨k,?_⟩
     have:y≠x:=fun e=>hj (tG hN e1 (e ▸ hi))
     simp [this,e]
    ·exact .inr ⟨k,c,e,z.sameBut hs (cne y c e)⟩
  ·obtain ⟨w',z⟩:=I.cell y c e
   exact ⟨w',z.sameBut hs (cne y c e)⟩
  ·obtain ⟨e,n,ne,nf,d⟩:=I.pin p hp
   exact ⟨(hs.2 p.1 ne).trans e,n,ne,nf,d⟩
 ·have hfn:X.fn x=true:=by
   rcases hf with z | z
   ·exact z
   ·rw [z] at hk;cases hk
  obtain ⟨c,hc⟩:=I.ok.has x (.inl hk)
  obtain ⟨w',z⟩:=I.cell x c hc
  refine wpAny_storeName_cell I.ok.kind hk hc z (fun h' hc' hs=>?_)
  obtain ⟨oc,hoc,hocd⟩:=id z
  refine h { s with heap:=h' } ⟨I.ok,I.os,I.bare,⟨fun b o e n hb hx=>?_,fun b o e n hb hx=>?_,I.base.free,fun b o e hx=>?_,I.base.tups,I.base.frzs,I.base.tbls⟩,⟨m,hn.sameBut hs (jk (cne x c hc)),fun j y v' e1 e2 e3=>?_⟩,fun y c' e=>?_,I.free,I.freeC,fun p hp=>?_,tracked ⟨oc,hoc,I.freeC x c hc⟩ hs,by simpa using I.len⟩ ⟨c,hs, .inr hc⟩
  ·exact (hs.2 b (d0 (cv (br e) (I.ok.cab x c hfn hc)))).trans (I.base.keep b o e n hb hx)
  ·obtain ⟨sl,e1⟩:=I.base.slot b o e n hb hx
   exact ⟨sl,(hs.2 b (d0 (cv (br e) (I.ok.cab x c hfn hc)))).trans e1⟩
  ·obtain ⟨o',e1⟩:=I.base.there b o e hx
   exact ⟨o',(hs.2 b (d0 (cv (br e) (I.ok.cab x c hfn hc)))).trans e1⟩
  ·by_cases hj:j=i
   ·subst hj
    rw [hi] at e1;cases e1
    rw [gm hiσ] at e2
    cases e2
    exact ⟨u,r, .inr ⟨.inl hk,c,hc,hc'⟩⟩
   ·rw [gp (jk hj)] at e2
    obtain ⟨u',r',q⟩:=hl j y v' e1 e2 e3
    refine ⟨u',r',?_⟩
    rcases q with q | ⟨k,c',e,z'⟩
    ·exact .inl q
    ·refine .inr ⟨k,c',e,z'.sameBut hs ?_⟩
     rintro rfl
     exact hj (tG hN e1 (I.ok.inj _ _ _ e hc ▸ hi))
  ·by_cases hcc:c'=c
   ·subst hcc;exact ⟨_,hc'⟩
   ·obtain ⟨w2,z2⟩:=I.cell y c' e
    exact ⟨w2,z2.sameBut hs hcc⟩
  ·obtain ⟨e,n,ne,nf,d⟩:=I.pin p hp
   refine ⟨(hs.2 p.1 ?_).trans e,n,ne,nf,d⟩
   intro q
   rw [q,hoc] at e
   have q':oc=p.2:=cu e
   exact d w' (by rw [<- q'];exact hocd)
theorem kD {M:Model}{A:Around}{E:Value->Shared->Prop}{i:Nat}{x:Str}{v:V}{u:Value}{Q:Unit->Shared->Prop}(I:Inv X pins σ H s)(hN:X.N.Nodup)(hi:X.N[i]?=some x)(hx:Loc X.env.scope x)(r:RelV v u)
  (h:∀ s',Inv X pins (σ.set i (some v)) H s'->Q () s') (hf:X.fn x=true\/X.env.scope.names.lookup x=some .local:=by first | exact .inl rfl | exact .inr rfl | assumption):wpAny M A (storeName X.env x u) Q E s:=
 vU I hN hi hx r (fun s' I' _=>h s' I') hf
theorem Inv.call' {s':Shared}{ch:List Addr}(I:Inv X pins σ H s)(ho:s'.os=s.os)(u:Un (frs X.stack) ch H H' s.heap s'.heap)(hok:HOk X.prog X.w H' s'.heap)(hg:v8 s'.gens)
  (hch:∀ b∈ch,(b∈X.ex\/X.s₀.heap.objs.size<=b)/\b≠X.env.locals/\(∀ x c,X.env.cells.lookup x=some c->c≠b)/\∀ p∈X.pn++pins,p.1≠b):Inv X pins σ H' s':=by
 obtain ⟨h',g',d',t',o'⟩:=s'
 have e:o'=s.os:=ho
 subst e
 exact I.call (g':=g') (t':=t') (d':=d') u hok hg hch
end
abbrev XK:=Value->Option Addr->Hp->Prop
abbrev St:=List (Option V)
abbrev VK:=V->Hp->Prop
abbrev TE:=St->Hp->VK->Prop
abbrev TT:=St->Hp->(Bool->Hp->Prop)->Prop
abbrev TA:=St->Hp->(List V->Hp->Prop)->Prop
structure mJ where
 nx:St->Hp->Prop
 rt:VK
 bk:St->Hp->Prop:=fun _ _=>False
 ct:St->Hp->Prop:=fun _ _=>False
abbrev TS:=mJ->St->Hp->Prop
def EP (X:Cx) (pins:List (Addr × Obj)) (σ:St) (Q:VK) (u:Value) (s':Shared):Prop:=∃ v H',Inv X pins σ H' s'/\RelV v u/\Q v H'
def TP (X:Cx) (pins:List (Addr × Obj)) (σ:St) (Q:Bool->Hp->Prop) (b:Bool) (s':Shared):Prop:=∃ H',Inv X pins σ H' s'/\Q b H'
def AP (X:Cx) (pins:List (Addr × Obj)) (σ:St) (Q:List V->Hp->Prop) (us:List Value) (s':Shared):Prop:=∃ vs H',Inv X pins σ H' s'/\Vals vs us/\Q vs H'
def SP (X:Cx) (pins:List (Addr × Obj)) (D:mJ) (f:Flow) (s':Shared):Prop:=
 match f with
 | .next=>∃ σ' H',Inv X pins σ' H' s'/\D.nx σ' H'
 | .brk=>∃ σ' H',Inv X pins σ' H' s'/\D.bk σ' H'
 | .cont=>∃ σ' H',Inv X pins σ' H' s'/\D.ct σ' H'
 | .ret u=>∃ v σ' H',Inv X pins σ' H' s'/\RelV v u/\D.rt v H'
def PE (X:Cx) (e:Expr) (t:TE):Prop:=
 ∀ (pins:List (Addr × Obj)) (s:Shared) (σ:St) (H:Hp) (Q:VK),Inv X pins σ H s->t σ H Q->wpAny (model X.prog X.w) X.A (eval e X.env) (EP X pins σ Q) X.xe s
def PT (X:Cx) (e:Expr) (t:TT):Prop:=
 ∀ (pins:List (Addr × Obj)) (s:Shared) (σ:St) (H:Hp) (Q:Bool->Hp->Prop),Inv X pins σ H s->t σ H Q->wpAny (model X.prog X.w) X.A (isTrue e X.env (eval e X.env)) (TP X pins σ Q) X.xe s
def PW (X:Cx) (e:Expr) (t:TT):Prop:=
 ∀ (whole:Sem Value) (pins:List (Addr × Obj)) (s:Shared) (σ:St) (H:Hp) (Q:Bool->Hp->Prop),Inv X pins σ H s->t σ H Q->wpAny (model X.prog X.w) X.A (isTrue e X.env whole) (TP X pins σ Q) X.xe s
theorem PW.pt {X:Cx}{e:Expr}{t:TT}(h:PW X e t):PT X e t:=h _
def PA (X:Cx) (es:List Expr) (t:TA):Prop:=
 ∀ (pos:Pos) (pins:List (Addr × Obj)) (s:Shared) (σ:St) (H:Hp) (Q:List V->Hp->Prop),Inv X pins σ H s->t σ H Q->wpAny (model X.prog X.w) X.A (spliced (vg pos (fm es X.env))) (AP X pins σ Q) X.xe s
def PS (X:Cx) (st:Stmt) (t:TS):Prop:=
 ∀ (pins:List (Addr × Obj)) (s:Shared) (σ:St) (H:Hp) (D:mJ),Inv X pins σ H s->t D σ H->wpAny (model X.prog X.w) X.A (exec st X.env) (SP X pins D) X.xe s
def PSs (X:Cx) (st:List Stmt) (t:TS):Prop:=
 ∀ (pins:List (Addr × Obj)) (s:Shared) (σ:St) (H:Hp) (D:mJ),Inv X pins σ H s->t D σ H->wpAny (model X.prog X.w) X.A (execs st X.env) (SP X pins D) X.xe s
theorem thn {α:Type}{t:Sem α}{Q Q':α->Shared->Prop}{M:Model}{A:Around}{E:Value->Shared->Prop}{s:Shared}(h:wpAny M A t Q E s)(hQ:∀ a s,Q a s->Q' a s):wpAny M A t Q' E s:=iq h hQ fun _ _ x=>x
section
variable {X:Cx}
inductive aHc (i:Nat) (σ:St) (H:Hp) (Q:VK):Prop
 | mk (v:V) (h:σ[i]?=some (some v)) (q:Q v H):aHc i σ H Q
def aE (i:Nat):TE:=fun σ H Q=>aHc i σ H Q
def tC (v:V):TE:=fun _ H Q=>Q v H
theorem aGk {i:Nat}{x:Str}{pos:Pos}(hN:X.N[i]?=some x)(hv:Vis X.env.scope x)(hd:(x == ("__debug__" : Str))=false:=by decide)(hcd:(x == ("__classdict__" : Str))=false:=by decide):PE X (.Name x pos) (aE i):=by
 intro pins s σ H Q I h
 obtain ⟨v,e,h⟩:=h
 obtain ⟨m,hn,hl⟩:=I.loc
 obtain ⟨u,r,l⟩:=hl i x v hN e hv
 have fin:EP X pins σ Q u s:=⟨v,H,I,r,h⟩
 rcases l with ⟨hk,hm⟩ | ⟨hk,c,hc,hcell⟩
 ·exact wpAny_Name (wpAny_loadName_local I.ok.kind hk hn hm fin) hd
 ·rcases hk with hk | hk
  ·exact wpAny_Name (wpAny_loadName_cell I.ok.kind hk hc hcell fin) hd
  ·exact wpAny_Name (wpAny_loadName_free I.ok.kind hk hc hcell fin hcd) hd
theorem aG {i j pos}:PE X (.Constant (.int i) j pos) (tC (.int i)):=fun _ _ _ H _ I h=>wpAny_Constant_int ⟨.int i,H,I.tok _,⟨_,rfl⟩,h⟩
theorem iM {b j pos}:PE X (.Constant (.bool b) j pos) (tC (.bl b)):=fun _ _ _ H _ I h=>Constant_bool ⟨.bl b,H,I,rfl,h⟩
theorem aCB {j pos}:PE X (.Constant .none j pos) (tC .non):=fun _ _ _ H _ I h=>Constant_none ⟨.non,H,I,rfl,h⟩
theorem nT {x j pos}:PE X (.Constant (.str x) j pos) (tC (.str x)):=fun _ _ _ H _ I h=>Calls.Constant_str ⟨.str x,H,I.tok _,⟨_,rfl⟩,h⟩
def Gl (X:Cx) (x:Str):Prop:=X.env.kindOf x=some .globalImplicit
theorem uS {E:Value->Shared->Prop}{pins:List (Addr × Obj)}{s:Shared}{σ:St}{H:Hp}{x:Str}{u:Value}{pos:Pos}{Q:Value->Shared->Prop}(I:Inv X pins σ H s)(hg:Gl X x)(hm:X.mg x=some u)(h:Q u s)
  (hd:(x == ("__debug__" : Str))=false:=by decide):wpAny (model X.prog X.w) X.A (eval (.Name x pos) X.env) Q E s:=
 vc I.ok.kind hg (Calls.loadGlobal_global (by rw [I.ok.glob];exact I.mod.glob.keeps I.bk) hm h) hd
theorem sV {E:Value->Shared->Prop}{pins:List (Addr × Obj)}{s:Shared}{σ:St}{H:Hp}{x:Str}{u:Value}{pos:Pos}{Q:Value->Shared->Prop}(I:Inv X pins σ H s)(hg:Gl X x)(hm:X.mg x=none)(hv:fi x=some u)(h:Q u s)
  (hn:x≠"__name__":=by decide) (hd:(x == ("__debug__" : Str))=false:=by decide):wpAny (model X.prog X.w) X.A (eval (.Name x pos) X.env) Q E s:=by
 obtain ⟨mb,h1,h2⟩:=I.mod.blt
 exact vc I.ok.kind hg (Calls.loadGlobal_builtin (by rw [I.ok.glob];exact I.mod.glob.keeps I.bk) hm (by rw [I.ok.blt];exact h1.keeps I.bk) ((h2 x hn).trans hv) h) hd
theorem gR {x:Str}{v:V}{u:Value}{pos:Pos}(hg:Gl X x)(hm:X.mg x=some u)(r:RelV v u)(hd:(x == ("__debug__" : Str))=false:=by decide):PE X (.Name x pos) (tC v):=
 fun _ _ _ H _ I h=>uS I hg hm ⟨v,H,I,r,h⟩ hd
theorem jR {x:Str}{v:V}{u:Value}{pos:Pos}(hg:Gl X x)(hm:X.mg x=none)(hv:fi x=some u)(r:RelV v u)(hn:x≠"__name__":=by decide)(hd:(x == ("__debug__" : Str))=false:=by decide):PE X (.Name x pos) (tC v):=
 fun _ _ _ H _ I h=>sV I hg hm hv ⟨v,H,I,r,h⟩ hn hd
variable {a b:Expr}{ta tb:TE}{pos:Pos}
def PC (X:Cx) (op:CmpOp) (a b:Expr) (t:TE):Prop:=
 ∀ (pins:List (Addr × Obj)) (s:Shared) (σ:St) (H:Hp) (Q:VK),Inv X pins σ H s->t σ H Q ->
  wpAny (model X.prog X.w) X.A (eval a X.env) (fun v s₁=>wpAny (model X.prog X.w) X.A (eval b X.env) (fun u s₂=>wpAny (model X.prog X.w) X.A (i7 op v u) (EP X pins σ Q) X.xe s₂) X.xe s₁) X.xe s
def tB (t:TE):TT:=fun σ H Q=>t σ H fun x H1=>∃ c,x = .bl c/\Q c H1
theorem yS {op:CmpOp}{t:TE}(h:PC X op a b t)(h1:ud op b=false:=by first | exact nobehind _ (by decide) (by decide) | rfl):PT X (.Compare a [op] [b] pos) (tB t):=by
 intro pins s σ H Q I hw
 refine yg (thn (h pins s σ H _ I hw) fun v s1 h1=>thn h1 fun u s2 h2=>thn h2 fun c s3 ⟨x,H1,I1,r1,q1⟩=>?_) h1
 obtain ⟨d,rfl,q⟩:=q1
 cases r1
 exact ir ⟨H1,I1,q⟩
theorem fM {e:Expr}{t:TE}(h:PE X e t)(he:∀ whole,isTrue e X.env whole=(do let v <- whole;Ab e.pos;xb [v] (truthy v)):=by intro _;rfl):PT X e (tB t):=by
 intro pins s σ H Q I hw
 refine isTrue_plain (thn (h pins s σ H _ I hw) fun v s1 ⟨x,H1,I1,r1,q1⟩=>?_) (he _)
 obtain ⟨d,rfl,q⟩:=q1
 cases r1
 exact ir ⟨H1,I1,q⟩
variable {tA tB':TT}{rest:List Expr}
def aGf (t u:TT):TT:=fun σ H Q=>t σ H fun c H1=>if c=true then u σ H1 Q else Q false H1
def tOr (t u:TT):TT:=fun σ H Q=>t σ H fun c H1=>if c=true then Q true H1 else u σ H1 Q
def uF (t:TT):TT:=fun σ H Q=>t σ H fun c H1=>Q (!c) H1
theorem yG (ha:PT X a tA):PW X (.BoolOp .And [a] pos) tA:=by
 intro wh pins s σ H Q I h
 refine isTrue_and (thn (ha pins s σ H Q I h) fun c s1 e=>?_)
 cases c with
 | true=>exact isTrue_and_nil e
 | false=>exact e
theorem jX (ha:PT X a tA):PW X (.BoolOp .Or [a] pos) tA:=by
 intro wh pins s σ H Q I h
 refine isTrue_or (thn (ha pins s σ H Q I h) fun c s1 e=>?_)
 cases c with
 | false=>exact isTrue_or_nil e
 | true=>exact e
theorem aAS (ha:PT X a tA)(hb:PW X (.BoolOp .And (b :: rest) pos) tB'):PW X (.BoolOp .And (a :: b :: rest) pos) (aGf tA tB'):=by
 intro wh pins s σ H Q I h
 refine isTrue_and (thn (ha pins s σ H _ I h) fun c s1 ⟨H1,I1,q1⟩=>?_)
 cases c with
 | true=>exact hb wh pins s1 σ H1 Q I1 q1
 | false=>exact ⟨H1,I1,q1⟩
theorem lV (ha:PT X a tA)(hb:PW X (.BoolOp .Or (b :: rest) pos) tB'):PW X (.BoolOp .Or (a :: b :: rest) pos) (tOr tA tB'):=by
 intro wh pins s σ H Q I h
 refine isTrue_or (thn (ha pins s σ H _ I h) fun c s1 ⟨H1,I1,q1⟩=>?_)
 cases c with
 | true=>exact ⟨H1,I1,q1⟩
 | false=>exact hb wh pins s1 σ H1 Q I1 q1
theorem fN (ha:PT X a tA):PT X (.UnaryOp .Not a pos) (uF tA):=by
 intro pins s σ H Q I h
 exact isTrue_not (ha pins s σ H (fun c H1=>Q (!c) H1) I h)
def aDi (ta tb:TE):TE:=fun σ H Q=>ta σ H fun x H1=>∃ c,x = .bl c/\if c=true then tb σ H1 Q else Q (.bl false) H1
def aGu (ta:TE):TE:=fun σ H Q=>ta σ H fun x H1=>∃ c,x = .bl c/\Q (.bl (!c)) H1
theorem aBU {op}{t:TE}(h:PE X a t):PE X (.BoolOp op [a] pos) t:=fun pins s σ H Q I hw=>BoolOp_one (h pins s σ H Q I hw)
theorem aCs (ha:PE X a ta)(hb:PE X (.BoolOp .And (b :: rest) pos) tb):PE X (.BoolOp .And (a :: b :: rest) pos) (aDi ta tb):=by
 intro pins s σ H Q I h
 refine BoolOp_and (thn (ha pins s σ H _ I h) fun v s1 ⟨x,H1,I1,r1,q1⟩=>?_)
 obtain ⟨c,rfl,q1⟩:=q1
 cases r1
 refine ir ?_
 cases c with
 | true=>exact hb pins s1 σ H1 Q I1 q1
 | false=>exact ⟨.bl false,H1,I1,rfl,q1⟩
theorem aGU (ha:PE X a ta):PE X (.UnaryOp .Not a pos) (aGu ta):=by
 intro pins s σ H Q I h
 refine UnaryOp_ (thn (ha pins s σ H _ I h) fun v s1 ⟨x,H1,I1,r1,q1⟩=>?_)
 obtain ⟨c,rfl,q1⟩:=q1
 cases r1
 exact not_of (ir ⟨.bl (!c),H1,I1,rfl,q1⟩)
def tIf (t:TT) (ta tb:TE):TE:=fun σ H Q=>t σ H fun c H1=>if c=true then ta σ H1 Q else tb σ H1 Q
theorem aDl {c:Expr}(hc:PT X c tA)(ha:PE X a ta)(hb:PE X b tb):PE X (.IfExp c a b pos) (tIf tA ta tb):=by
 intro pins s σ H Q I h
 refine wpAny_IfExp (thn (hc pins s σ H _ I h) fun d s1 ⟨H1,I1,q1⟩=>?_)
 cases d with
 | true=>exact ha pins s1 σ H1 Q I1 q1
 | false=>exact hb pins s1 σ H1 Q I1 q1
end
def SqL (K:ae) (H:Hp) (a:Addr) (xs:List V):Prop:=
 Rd H a (.lst xs) \/
  ∃ (o:Obj) (its:Array Value) (n:Nat),K.lookup a=some o/\o.cls = .type "list"/\o.dict=none/\o.data = .seq its n/\its.size<=ba/\Vals xs its.toList
def SqT (K:ae) (H:Hp) (a:Addr) (xs:List V):Prop:=
 Rd H a (.tup xs) \/
  ∃ (o:Obj) (its:Array Value) (n:Nat),K.lookup a=some o/\o.cls = .type "tuple"/\o.dict=none/\o.data = .seq its n/\its.size<=ba/\Vals xs its.toList
def aJw:Value->Option V
 | .none=>some .non
 | .bool b=>some (.bl b)
 | .int i _=>some (.int i)
 | .str x _=>some (.str x)
 | .bytes b _=>some (.byt b)
 | .float b _=>some (.flt b)
 | .ref a=>some (.ref a)
 | .type n=>some (.ty n)
 | _=>none
theorem RelV.abs {x:V}{u:Value}(r:RelV x u):aJw u=some x:=by
 cases x with
 | non=>cases r;rfl
 | bl _=>cases r;rfl
 | int _=>obtain ⟨t,rfl⟩:=r;rfl
 | str _=>obtain ⟨t,rfl⟩:=r;rfl
 | byt _=>obtain ⟨t,rfl⟩:=r;rfl
 | flt _=>obtain ⟨t,rfl⟩:=r;rfl
 | ref _=>cases r;rfl
 | ty _=>cases r;rfl
theorem RelV.inj {x y:V}{u:Value}(r:RelV x u)(q:RelV y u):x=y:=cu (r.abs.symm.trans q.abs)
theorem Vals.inj:∀ {xs ys:List V} {us:List Value},Vals xs us->Vals ys us->xs=ys
 | _,_,_, .nil, .nil=>rfl
 | _,_,_, .cons r t, .cons r' t'=>by rw [r.inj r',Vals.inj t t']
section
variable {X:Cx}{pins:List (Addr × Obj)}{σ:St}{H:Hp}{s:Shared}{a:Addr}{xs ys:List V}
theorem SqL.of {K:ae}(h:H a=some (.lst xs)):SqL K H a xs := .inl (.inl h)
theorem SqT.of {K:ae}(h:H a=some (.tup xs)):SqT K H a xs := .inl (.inl h)
theorem Inv.list (I:Inv X pins σ H s)(h:SqL X.K H a xs):∃ its:List Value,Vals xs its/\PlainL s.heap a its.toArray/\xs.length<=ba:=by
 rcases h with h | ⟨o,its,n,hk,hc,hd,hs,hz,r⟩
 ·obtain ⟨z,its,n,r,e⟩:=h.ok I.hok
  exact ⟨its,r,⟨_,n,e,rfl,rfl,rfl⟩,z⟩
 ·refine ⟨its.toList,r,⟨o,n,I.kIn a o hk,hc,hd,by simpa using hs⟩,?_⟩
  have e:=r.length
  simp only [fc] at e
  omega
theorem Inv.tuple (I:Inv X pins σ H s)(h:SqT X.K H a xs):∃ its:List Value,Vals xs its/\IsTup s.heap a its.toArray/\xs.length<=ba:=by
 rcases h with h | ⟨o,its,n,hk,hc,_,hs,hz,r⟩
 ·obtain ⟨z,its,r,p⟩:=h.ok I.hok
  exact ⟨its,r,p.tup,z⟩
 ·refine ⟨its.toList,r,⟨o,I.kIn a o hk,hc,n,by simpa using hs⟩,?_⟩
  have e:=r.length
  simp only [fc] at e
  omega
theorem Inv.list_inj (I:Inv X pins σ H s)(h:SqL X.K H a xs)(h':SqL X.K H a ys):xs=ys:=by
 obtain ⟨its,r,⟨o,n,e,_,_,d⟩,_⟩:=I.list h
 obtain ⟨its',r',⟨o',n',e',_,_,d'⟩,_⟩:=I.list h'
 rw [e] at e';cases e'
 rw [d] at d'
 injection d' with d1 _
 have:its=its':=by simpa using congrArg AO d1
 subst this
 exact r.inj r'
theorem Inv.tuple_inj (I:Inv X pins σ H s)(h:SqT X.K H a xs)(h':SqT X.K H a ys):xs=ys:=by
 obtain ⟨its,r,⟨o,e,_,n,d⟩,_⟩:=I.tuple h
 obtain ⟨its',r',⟨o',e',_,n',d'⟩,_⟩:=I.tuple h'
 rw [e] at e';cases e'
 rw [d] at d'
 injection d' with d1 _
 have:its=its':=by simpa using congrArg AO d1
 subst this
 exact r.inj r'
end
abbrev Cx.wish (X:Cx) (E:Value->Shared->Prop):Cx:={ X with xe:=E }
abbrev Cx.nox (X:Cx):Cx:=X.wish fun _ _=>False
theorem Cx.Ok.wish {X:Cx}(ok:X.Ok)(E:Value->Shared->Prop):(X.wish E).Ok:=
 ⟨ok.mod,ok.kind,ok.glob,ok.blt,ok.above,ok.inj,ok.has,ok.cab,ok.hd,ok.frames,ok.stk,ok.exf,ok.bs,ok.bsz,ok.noex,ok.exfs,ok.funs,ok.frf⟩
theorem Cx.Ok.unwish {X:Cx}{E:Value->Shared->Prop}(ok:(X.wish E).Ok):X.Ok:=
 ⟨ok.mod,ok.kind,ok.glob,ok.blt,ok.above,ok.inj,ok.has,ok.cab,ok.hd,ok.frames,ok.stk,ok.exf,ok.bs,ok.bsz,ok.noex,ok.exfs,ok.funs,ok.frf⟩
section
variable {X:Cx}{pins:List (Addr × Obj)}{σ:St}{H:Hp}{s:Shared}{E:Value->Shared->Prop}
theorem Inv.wish (I:Inv X pins σ H s)(E:Value->Shared->Prop):Inv (X.wish E) pins σ H s:=⟨I.ok.wish E,I.os,I.bare,I.base,I.loc,I.cell,I.free,I.freeC,I.pin,I.hok,I.len⟩
theorem Inv.unwish (I:Inv (X.wish E) pins σ H s):Inv X pins σ H s:=⟨I.ok.unwish,I.os,I.bare,I.base,I.loc,I.cell,I.free,I.freeC,I.pin,I.hok,I.len⟩
theorem SP.unwish {D:mJ}{f:Flow}{s':Shared}(h:SP (X.wish E) pins D f s'):SP X pins D f s':=by
 cases f with
 | next=>obtain ⟨σ',H',I,q⟩:=h;exact ⟨σ',H',I.unwish,q⟩
 | brk=>obtain ⟨σ',H',I,q⟩:=h;exact ⟨σ',H',I.unwish,q⟩
 | cont=>obtain ⟨σ',H',I,q⟩:=h;exact ⟨σ',H',I.unwish,q⟩
 | ret u=>obtain ⟨v,σ',H',I,r,q⟩:=h;exact ⟨v,σ',H',I.unwish,r,q⟩
theorem PT.nox {e:Expr}{t:TT}(h:PT X.nox e t):PT X e t:=fun pins s σ H Q I hw=>
 iq (h pins s σ H Q (I.wish _) hw) (fun _ _ ⟨H',I',q⟩=>⟨H',I'.unwish,q⟩) fun _ _ z=>ki z
theorem PSs.nox {st:List Stmt}{t:TS}(h:PSs X.nox st t):PSs X st t:=fun pins s σ H D I hw=>
 iq (h pins s σ H D (I.wish _) hw) (fun _ _ q=>q.unwish) fun _ _ z=>ki z
end
section
variable {X:Cx}{st:Stmt}{rest:List Stmt}{t u:TS}{e:Expr}{te:TE}{pos:Pos}
def aK:TS:=fun D σ H=>D.nx σ H
def aP (t u:TS):TS:=fun D σ H=>t { D with nx:=u D } σ H
theorem aI:PSs X [] aK:=fun _ _ σ H _ I h=>um ⟨σ,H,I,h⟩
theorem aA (h1:PS X st t)(h2:PSs X rest u):PSs X (st :: rest) (aP t u):=by
 intro pins s σ H D I h
 refine wpAny_execs_cons (thn (h1 pins s σ H { D with nx:=u D } I h) fun f s1 q=>?_)
 cases f with
 | next=>
  obtain ⟨σ',H',I',q⟩:=q
  exact h2 pins s1 σ' H' D I' q
 | ret v=>exact q
 | brk=>exact q
 | cont=>exact q
theorem Inv.quiet {pins:List (Addr × Obj)}{σ:St}{H:Hp}{s:Shared}(I:Inv X pins σ H s):interactive X.env=false:=by simp [interactive,I.ok.kind]
def jD (te:TE):TS:=fun D σ H=>te σ H fun _ H1=>D.nx σ H1
theorem fP (he:PE X e te)(hs:A8 e none pos.line X.env=pure false:=by rfl):PS X (.Expr e pos) (jD te):=by
 intro pins s σ H D I h
 exact wpAny_Expr_any (thn (he pins s σ H _ I h) fun v s1 ⟨x,H1,I1,r1,q1⟩=>⟨σ,H1,I1,q1⟩) I.quiet hs
def fB (te:TE):TS:=fun D σ H=>te σ H D.rt
theorem bP (he:PE X e te):PS X (.Return (some e) pos) (fB te):=by
 intro pins s σ H D I h
 exact wpAny_Return_some (thn (he pins s σ H _ I h) fun v s1 ⟨x,H1,I1,r1,q1⟩=>⟨x,σ,H1,I1,r1,q1⟩)
def eD (c:TT) (t u:TS):TS:=fun D σ H=>c σ H fun b H1=>if b=true then t D σ H1 else u D σ H1
theorem dG {c:Expr}{a b:List Stmt}{tc:TT}(hc:PT X c tc)(ha:PSs X a t)(hb:PSs X b u):PS X (.If c a b pos) (eD tc t u):=by
 intro pins s σ H D I h
 refine wpAny_If (thn (hc pins s σ H _ I h) fun d s1 ⟨H1,I1,q1⟩=>?_)
 cases d with
 | true=>exact ha pins s1 σ H1 D I1 q1
 | false=>exact hb pins s1 σ H1 D I1 q1
end
abbrev TG:=V->St->Hp->(St->Hp->Prop)->Prop
abbrev TGs:=List V->St->Hp->(St->Hp->Prop)->Prop
def PG (X:Cx) (target:Expr) (t:TG):Prop:=
 ∀ (pins:List (Addr × Obj)) (s:Shared) (σ:St) (H:Hp) (v:V) (u:Value) (Q:St->Hp->Prop),Inv X pins σ H s->RelV v u->t v σ H Q ->
  wpAny (model X.prog X.w) X.A (AQ target X.env u) (fun _ s'=>∃ σ' H',Inv X pins σ' H' s'/\Q σ' H') X.xe s
def PGs (X:Cx) (ts:List Expr) (t:TGs):Prop:=
 ∀ (pins:List (Addr × Obj)) (s:Shared) (σ:St) (H:Hp) (vs:List V) (us:List Value) (Q:St->Hp->Prop),Inv X pins σ H s->Vals vs us->t vs σ H Q ->
  wpAny (model X.prog X.w) X.A (Av ((q9 ts X.env).map (·.2)) us) (fun _ s'=>∃ σ' H',Inv X pins σ' H' s'/\Q σ' H') X.xe s
abbrev aIt:=V->V->V->Hp->(Hp->Prop)->Prop
def aJl (X:Cx) (t:aIt):Prop:=
 ∀ (pins:List (Addr × Obj)) (s:Shared) (σ:St) (H:Hp) (o i v:V) (ov iv u:Value) (Q:Hp->Prop),Inv X pins σ H s->RelV o ov->RelV i iv->RelV v u->t o i v H Q ->
  wpAny (model X.prog X.w) X.A (setItem ov iv u) (fun _ s'=>∃ H',Inv X pins σ H' s'/\Q H') X.xe s
section
variable {X:Cx}{pos:Pos}
def aL (i:Nat):TG:=fun v σ H Q=>Q (σ.set i (some v)) H
theorem aT {i:Nat}{x:Str}(hN:X.N.Nodup)(hi:X.N[i]?=some x)(hx:Loc X.env.scope x)(hf:X.fn x=true\/X.env.scope.names.lookup x=some .local:=by first | exact .inl rfl | exact .inr rfl | assumption):PG X (.Name x pos) (aL i):=by
 intro pins s σ H v u Q I r h
 exact wpAny_assign_Name (kD I hN hi hx r (fun s' I'=>⟨_,H,I',h⟩) hf)
def rG:TGs:=fun vs σ H Q=>vs=[]/\Q σ H
def cO (t:TG) (u:TGs):TGs:=fun vs σ H Q=>∃ v r,vs=v :: r/\t v σ H fun σ' H'=>u r σ' H' Q
theorem dE:PGs X [] rG:=by
 intro pins s σ H vs us Q I r h
 obtain ⟨e,h⟩:=h
 subst e
 cases r
 exact assignInOrder_nil ⟨σ,H,I,h⟩
theorem bC {e:Expr}{es:List Expr}{t:TG}{u:TGs}(h1:PG X e t)(h2:PGs X es u)
  (hs:(q9 (e :: es) X.env).map (·.2)=AQ e X.env :: (q9 es X.env).map (·.2):=by rfl):PGs X (e :: es) (cO t u):=by
 intro pins s σ H vs us Q I r h
 obtain ⟨v,vr,e1,h⟩:=h
 subst e1
 cases r with
 | cons r rr=>
  rw [hs]
  refine vh (thn (h1 pins s σ H _ _ _ I r h) fun _ s1 ⟨σ1,H1,I1,q1⟩=>?_)
  exact h2 pins s1 σ1 H1 _ _ Q I1 rr q1
def qE (K:ae) (n:Nat) (t:TGs):TG:=fun v σ H Q=>∃ a xs,v = .ref a/\SqT K H a xs/\xs.length=n/\t xs σ H Q
theorem aHI {es:List Expr}{k:Nat}{t:TGs}{n:Nat}(hc:X.calm=true)(h:PGs X es t)
  (hn:(q9 es X.env).length=n:=by rfl) (hst:(q9 es X.env).findIdx? (·.1)=none:=by rfl):PG X (.Tuple es k pos) (qE X.K n t):=by
 intro pins s σ H v u Q I r hw
 obtain ⟨a,xs,e1,hq,hl,hw⟩:=hw
 subst e1
 cases r
 obtain ⟨its,rv,ht,hz⟩:=I.tuple hq
 refine assign_Tuple_tuple (I.ok.hd hc) ht (by simp [hn,<- hl,rv.length]) hst fun h' hx=>?_
 have I1:Inv X pins σ H { s with heap:=h' }:=I.kept (t':=s.toks) fun b o e=>hx b o (d0 (br e)) e
 exact h pins _ σ H xs _ Q I1 (by simpa using rv) hw
def oZ (to ti:TE) (t:aIt):TG:=fun v σ H Q=>to σ H fun o H1=>ti σ H1 fun i H2=>t o i v H2 fun H3=>Q σ H3
theorem qY {o i:Expr}{to ti:TE}{t:aIt}(ho:PE X o to)(hi:PE X i ti)(hs:aJl X t)
  (ha:∀ v,AQ (.Subscript o i pos) X.env v=(do
   let ov <- xb [v] (eval o X.env)
   let iv <- xb [v,ov] (eval i X.env)
   Ab pos
   xb [v,ov,iv] (setItem ov iv v)
   release [v,ov,iv] []):=by intro _;rfl):PG X (.Subscript o i pos) (oZ to ti t):=by
 intro pins s σ H v u Q I r h
 rw [ha]
 refine aa (fj (thn (ho pins s σ H _ I h) fun ov s1 ⟨x,H1,I1,r1,q1⟩=>?_))
 refine aa (fj (thn (hi pins s1 σ H1 _ I1 q1) fun iv s2 ⟨y,H2,I2,r2,q2⟩=>?_))
 refine aa (qk (aa (fj (thn (hs pins s2 σ H2 x y v ov iv u _ I2 r1 r2 r q2) fun _ s3 ⟨H3,I3,q3⟩=>?_))))
 exact wpAny_release ⟨σ,H3,I3,q3⟩
def bU (te:TE) (g:TG):TS:=fun D σ H=>te σ H fun x H1=>g x σ H1 D.nx
theorem jB {tg e:Expr}{te:TE}{g:TG}(he:PE X e te)(hg:PG X tg g)(hs:swapsWithSole [tg] e pos.line X.env=pure false:=by rfl)(hw:swappedStores [tg] e X.env=pure none:=by rfl)
  (h1:(q9 [tg] X.env).map (·.2)=[AQ tg X.env]:=by rfl):PS X (.Assign [tg] e pos) (bU te g):=by
 intro pins s σ H D I h
 refine wpAny_Assign_stores (thn (he pins s σ H _ I h) fun v s1 ⟨x,H1,I1,r1,q1⟩=>?_) hs hw
 rw [h1]
 exact thn (hg pins s1 σ H1 x v _ I1 r1 q1) fun _ s2 q=>q
theorem aY {i:Nat}{x:Str}{e:Expr}{te:TE}{pos':Pos}(hN:X.N.Nodup)(hi:X.N[i]?=some x)(hx:Loc X.env.scope x)(he:PE X e te)(hs:A8 e (some (.Name x pos')) pos.line X.env=pure false:=by rfl)(hf:X.fn x=true\/X.env.scope.names.lookup x=some .local:=by first | exact .inl rfl | exact .inr rfl | assumption) :
  PS X (.Assign [.Name x pos'] e pos) (bU te (aL i)):=by
 intro pins s σ H D I h
 refine wpAny_Assign_Name (thn (he pins s σ H _ I h) fun v s1 ⟨y,H1,I1,r1,q1⟩=>?_) hs
 exact kD I1 hN hi hx r1 (fun s2 I2=>⟨_,H1,I2,q1⟩) hf
def aIL (i j:Nat) (ta:TA):TS:=fun D σ H=>ta σ H fun vs H1=>∃ v w,vs=[v,w]/\D.nx ((σ.set i (some v)).set j (some w)) H1
theorem aEA {i j:Nat}{x y:Str}{a b:Expr}{ta:TA}{px py pt:Pos}{kt k2 pt2}(hc:X.calm=true)(hN:X.N.Nodup)(hi:X.N[i]?=some x)(hj:X.N[j]?=some y)(hij:i≠j)
  (hx:X.env.scope.names.lookup x=some .local) (hy:X.env.scope.names.lookup y=some .local) (ha:PA X [a,b] ta)
  (hw:swappedStores [.Tuple [.Name x px, .Name y py] kt pt] (.Tuple [a,b] k2 pt2) X.env=pure (some [x,y]))
  (hs:swapsWithSole [.Tuple [.Name x px, .Name y py] kt pt] (.Tuple [a,b] k2 pt2) pos.line X.env=pure false:=by rfl) :
  PS X (.Assign [.Tuple [.Name x px, .Name y py] kt pt] (.Tuple [a,b] k2 pt2) pos) (aIL i j ta):=by
 intro pins s σ H D I h
 rw [exec_Assign_arm]
 refine aa (qk ?_)
 rw [hs]
 refine aa (ak ?_)
 rw [if_neg (by decide)]
 refine aa (Tuple_ (thn (ha _ pins s σ H _ I h) fun us s1 ⟨vs,H1,I1,r1,q1⟩=>?_))
 obtain ⟨v,w,e1,q1⟩:=q1
 subst e1
 obtain ⟨u1,u2,rfl,rv,rw'⟩:∃ u1 u2,us=[u1,u2]/\RelV v u1/\RelV w u2:=by
  cases r1 with
  | cons p q=>
   cases q with
   | cons p' q'=>
    cases q'
    exact ⟨_,_,rfl,p,p'⟩
 refine gf ?_ (by show 2<=ba;decide)
 have I2:Inv X pins σ H1 { s1 with heap:=s1.heap.push { cls := .type "tuple",data := .seq [u1,u2].toArray } }:=I1.kept (t':=s1.toks) fun b o e=>ao _ e
 rw [hw]
 refine aa (ak ?_)
 show wpAny (model X.prog X.w) X.A (do rule "assign.swapped-stores";let items <- unpackItems (.ref s1.heap.objs.size) 2 none;Av [fun v=>A6 X.env y v,fun v=>A6 X.env x v] items.reverse;pure Flow.next) _ _ _
 refine aa (uj (aa (unpackItems_tuple (items:=#[u1,u2]) (I.ok.hd hc) (IsTup.new s1.heap _) fun h' hx'=>?_)))
 have I3:=I2.kept (h':=h') (t':=s1.toks) fun b o e=>hx' b o (d0 (br e)) e
 show wpAny _ _ (Av [fun v=>A6 X.env y v,fun v=>A6 X.env x v] [u2,u1] >>= fun _=>pure Flow.next) _ _ _
 refine aa (vh (zp (kD I3 hN hj (.inl hy) rw' (fun s2 I4=>?_) (.inr hy))))
 refine vh (zp (kD I4 hN hi (.inl hx) rv (fun s3 I5=>assignInOrder_nil (ak ?_)) (.inr hx)))
 rw [List.set_comm _ _ (jk hij)] at I5
 exact ⟨_,H1,I5,q1⟩
end
section
variable {X:Cx}{pos:Pos}
def vD (c:TT) (tb:TS):TS:=fun D σ H=>∃ W:Nat->St->Hp->Prop,(∃ m,W m σ H)/\∀ m σ H,W m σ H ->
 c σ H fun b H1=>if b=true then ∃ N:St->Hp->Prop,(∀ σ' H',N σ' H'->∃ m',m'<m/\W m' σ' H')/\tb { D with nx:=N,ct:=N,bk:=D.nx } σ H1 else D.nx σ H1
theorem pC {c:Expr}{body:List Stmt}{tc:TT}{tb:TS}(hp:PassesOwn (model X.prog X.w) X.A X.env X.xe)(hc:PT X c tc)(hb:PSs X body tb):PS X (.While c body [] pos) (vD tc tb):=by
 intro pins s σ H D I h
 obtain ⟨W,⟨m0,w0⟩,turn⟩:=h
 refine wpAny_While (codeAny_whileLoop (fun n s'=>∃ σ' H',Inv X pins σ' H' s'/\W n σ' H') ?_ m0 ⟨σ,H,I,w0⟩)
 rintro n s1 ⟨σ1,H1,I1,w1⟩
 refine lq hp (thn (hc pins s1 σ1 H1 _ I1 (turn n σ1 H1 w1)) fun b s2 ⟨H2,I2,q2⟩=>?_)
 cases b with
 | true=>
  obtain ⟨N,hN,q2⟩:=q2
  rw [if_pos rfl]
  refine lq hp (thn (hb pins s2 σ1 H2 _ I2 q2) fun f s3 q3=>?_)
  cases f with
  | next=>
   obtain ⟨σ3,H3,I3,n3⟩:=q3
   obtain ⟨m',hm,w3⟩:=hN σ3 H3 n3
   exact ⟨m',hm,σ3,H3,I3,w3⟩
  | cont=>
   obtain ⟨σ3,H3,I3,n3⟩:=q3
   obtain ⟨m',hm,w3⟩:=hN σ3 H3 n3
   exact ⟨m',hm,σ3,H3,I3,w3⟩
  | brk=>exact q3
  | ret v=>exact q3
 | false=>
  rw [if_neg bu]
  exact um ⟨σ1,H2,I2,q2⟩
end
structure It where
 go:Nat->Hp->Prop
 yld:Nat->Hp->V->Hp->Prop
 stop:Nat->Hp->Prop
def FpOk (X:Cx) (pins:List (Addr × Obj)) (H:Hp) (b:Addr):Prop:=
 H b=none/\b≠X.env.locals/\b∉X.fs/\(b∈X.ex\/X.s₀.heap.objs.size<=b)/\(∀ x c,X.env.cells.lookup x=some c->c≠b)/\∀ p∈X.pn++pins,p.1≠b
theorem Inv.fpOk {X:Cx}{pins:List (Addr × Obj)}{σ:St}{H H':Hp}{s:Shared}{b:Addr}(I:Inv X pins σ H s)(hb:s.heap.objs.size<=b)(hn:H' b=none):FpOk X pins H' b:=by
 refine ⟨hn,mj (cv I.lt hb),I.nofs hb, .inr (et I.sz hb),fun x c e z=>?_,fun p hp z=>?_⟩
 ·obtain ⟨v,q⟩:=I.cell x c e
  exact absurd (cv q.lt (by rw [z];exact hb)) (kn _)
 ·exact absurd (cv (br (I.pin p hp).1) (by rw [z];exact hb)) (kn _)
structure aFu (P:Program)(w:World)(K:ae)(tg:Expr)(J:It)(fp:List Addr)(it:Addr)(tn:Nat->Heap->Prop):Prop where
 mem:it∈fp
 obj:∀ i h,tn i h->∀ b∈fp,∃ o,h.get? b=some o/\∀ v,o.data ≠ .cell v
 keep:∀ i h h',tn i h->(∀ b∈fp,∀ o,h.get? b=some o->h'.get? b=some o)->tn i h'
 item:∀ (X:Cx),X.prog=P->X.w=w->X.K=K->X.calm=true->∀ (i:Nat) (pins:List (Addr × Obj)) (s:Shared) (σ:St) (H:Hp) (E:Value->Shared->Prop),Inv X pins σ H s->(∀ b∈fp,FpOk X pins H b)->tn i s.heap->J.go i H ->
  wpAny (model P w) X.A (wg (.ref it)) (fun r s1=>∃ u,r=some u /\
   wpAny (model P w) X.A (uo tg (.ref it) u) (fun _ s2=>∃ x H',Inv X pins σ H' s2/\RelV x u/\J.yld i H x H'/\tn (i+1) s2.heap/\∀ b∈fp,H' b=none) E s1) E s
 done:∀ (X:Cx),X.prog=P->X.w=w->X.K=K->X.calm=true->∀ (i:Nat) (pins:List (Addr × Obj)) (s:Shared) (σ:St) (H:Hp) (E:Value->Shared->Prop),Inv X pins σ H s->(∀ b∈fp,FpOk X pins H b)->tn i s.heap->J.stop i H ->
  wpAny (model P w) X.A (wg (.ref it)) (fun r s1=>r=none/\Inv X pins σ H s1) E s
 self:∀ (A:Around) (i:Nat) (s:Shared) (Q:Value->Shared->Prop) (E:Value->Shared->Prop),tn i s.heap->Q (.ref it) s->wpAny (model P w) A (AR (.ref it)) Q E s
abbrev TI:=St->Hp->(It->Hp->Prop)->Prop
def PIE (X:Cx) (pins:List (Addr × Obj)) (σ:St) (tg:Expr) (R:It->Hp->Prop) (itv:Value) (s2:Shared):Prop:=
 ∃ (it:Addr) (fp:List Addr) (tn:Nat->Heap->Prop) (J:It) (H':Hp),itv = .ref it/\Inv X pins σ H' s2/\aFu X.prog X.w X.K tg J fp it tn/\tn 0 s2.heap/\(∀ b∈fp,FpOk X pins H' b)/\R J H'
def PI (X:Cx) (tg iter:Expr) (wi:TI):Prop:=
 ∀ (pins:List (Addr × Obj)) (s:Shared) (σ:St) (H:Hp) (R:It->Hp->Prop),Inv X pins σ H s->wi σ H R ->
  wpAny (model X.prog X.w) X.A (eval iter X.env) (fun v s1=>wpAny (model X.prog X.w) X.A (AR v) (PIE X pins σ tg R) X.xe s1) X.xe s
theorem aFU {M : Model} {A : Around} {E : Value -> Shared -> Prop} {s : Shared} {tg : Expr} {it : Addr} {u : Value} {o : Obj} {n : String} {vs : Array Value} {Q : Unit -> Shared -> Prop} (ho : s.heap.get? it = some o) (hc : o.cls = .type n) (hd : o.data = .fields vs)
    (hn : ["enumerate", "zip", "dict_itemiterator", "dict_reverseitemiterator", "odict_iterator", "itertools.zip_longest", "itertools.pairwise"].contains n = false) (hQ : Q () s) : wpAny M A (uo tg (.ref it) u) Q E s := by
  unfold uo
  cases tg <;> first
    | exact ak hQ
    | (cases u <;> first
        | exact ak hQ
        | (refine aa (wpAny_load ho ?_)
           rw [hc, hd]
           show wpAny M A (if (["enumerate", "zip", "dict_itemiterator", "dict_reverseitemiterator", "odict_iterator", "itertools.zip_longest", "itertools.pairwise"].contains n && vs[0]? == some (lr _)) = true then _ else _) Q E s
           rw [if_neg (by intro h; rw [hn, Bool.false_and] at h; cases h)]
           exact ak hQ))
def Itl (K:ae) (a:Addr):It:=
 ⟨fun i H=>∃ xs x,SqL K H a xs/\xs[i]?=some x,fun i H x H'=>H'=H/\∀ xs,SqL K H a xs->xs[i]?=some x,fun i H=>∃ xs,SqL K H a xs/\xs.length<=i⟩
def Itt (K:ae) (a:Addr):It:=
 ⟨fun i H=>∃ xs x,SqT K H a xs/\xs[i]?=some x,fun i H x H'=>H'=H/\∀ xs,SqT K H a xs->xs[i]?=some x,fun i H=>∃ xs,SqT K H a xs/\xs.length<=i⟩
def Itr (lo:Int) (n:Nat):It:=⟨fun i _=>i<n,fun i H x H'=>H'=H/\x = .int (lo+i),fun i _=>n<=i⟩
theorem aAZ {P:Program}{w:World}{K:ae}{tg:Expr}(a it:Addr):aFu P w K tg (Itl K a) [it] it (fun i h=>h.IsListIter it a i) where
 mem:=by simp
 obj:=fun i h st b hb=>by
  have e:b=it:=by simpa using hb
  subst e
  obtain ⟨o,e,c,d⟩:=st
  exact ⟨o,e,fun v z=>by rw [d] at z;cases z⟩
 keep:=fun i h h' st k=>st.at fun o e=>k it (by simp) o e
 item:=by
  intro X hP hw hK hc i pins s σ H E I hf st hg
  subst hP hw hK
  obtain ⟨xs,x,hq,hx⟩:=hg
  obtain ⟨its,rv,p,hz⟩:=I.list hq
  obtain ⟨u,hu,ru⟩:=rv.get hx
  obtain ⟨f0,f1,f2,f3,f4,f5⟩:=hf it (by simp)
  refine wpAny_pyNext_list_item st p.isList (x:=u) (by simpa using hu) fun h' st' sb=>?_
  have I1:Inv X pins σ H { s with heap:=h' }:=I.turned (t':=s.toks) (fun b o hb e=>(sb.2 b hb).trans e) f0 f1 f3 f4 f5
  obtain ⟨o,e,c,d⟩:=id st'
  exact ⟨u,rfl,aFU (s:={ s with heap:=h' }) e c d (by decide) ⟨x,H,I1,ru,⟨rfl,fun ys hy=>by rw [I.list_inj hy hq];exact hx⟩,st',fun b hb=>(hf b hb).1⟩⟩
 done:=by
  intro X hP hw hK hc i pins s σ H E I hf st hg
  subst hP hw hK
  obtain ⟨xs,hq,hx⟩:=hg
  obtain ⟨its,rv,p,hz⟩:=I.list hq
  obtain ⟨f0,f1,f2,f3,f4,f5⟩:=hf it (by simp)
  have hl:=rv.length
  exact wpAny_pyNext_list_end (I.ok.hd hc) st p.isList (by simp;omega) fun h' eb=>⟨rfl,I.turned (t':=s.toks) (fun b o hb e=>eb b o hb e) f0 f1 f3 f4 f5⟩
 self:=fun _ _ _ _ _ st h=>wpAny_pyIter_listiter st h
theorem aAB {P:Program}{w:World}{K:ae}{tg:Expr}(a it:Addr):aFu P w K tg (Itt K a) [it] it (fun i h=>h.IsTupleIter it a i) where
 mem:=by simp
 obj:=fun i h st b hb=>by
  have e:b=it:=by simpa using hb
  subst e
  obtain ⟨o,e,c,d⟩:=st
  exact ⟨o,e,fun v z=>by rw [d] at z;cases z⟩
 keep:=fun i h h' st k=>st.at fun o e=>k it (by simp) o e
 item:=by
  intro X hP hw hK hc i pins s σ H E I hf st hg
  subst hP hw hK
  obtain ⟨xs,x,hq,hx⟩:=hg
  obtain ⟨its,rv,p,hz⟩:=I.tuple hq
  obtain ⟨u,hu,ru⟩:=rv.get hx
  obtain ⟨f0,f1,f2,f3,f4,f5⟩:=hf it (by simp)
  refine xc st (show s.heap.IsTuple a its.toArray from p) (x:=u) (by simpa using hu) fun h' st' sb=>?_
  have I1:Inv X pins σ H { s with heap:=h' }:=I.turned (t':=s.toks) (fun b o hb e=>(sb.2 b hb).trans e) f0 f1 f3 f4 f5
  obtain ⟨o,e,c,d⟩:=id st'
  exact ⟨u,rfl,aFU (s:={ s with heap:=h' }) e c d (by decide) ⟨x,H,I1,ru,⟨rfl,fun ys hy=>by rw [I.tuple_inj hy hq];exact hx⟩,st',fun b hb=>(hf b hb).1⟩⟩
 done:=by
  intro X hP hw hK hc i pins s σ H E I hf st hg
  subst hP hw hK
  obtain ⟨xs,hq,hx⟩:=hg
  obtain ⟨its,rv,p,hz⟩:=I.tuple hq
  obtain ⟨f0,f1,f2,f3,f4,f5⟩:=hf it (by simp)
  have hl:=rv.length
  exact ya (I.ok.hd hc) st (show s.heap.IsTuple a its.toArray from p) (by simp;omega) fun h' eb=>⟨rfl,I.turned (t':=s.toks) (fun b o hb e=>eb b o hb e) f0 f1 f3 f4 f5⟩
 self:=fun _ _ _ _ _ st h=>yc st h
theorem aAw {P:Program}{w:World}{K:ae}{tg:Expr}(it:Addr)(lo:Int)(n:Nat):aFu P w K tg (Itr lo n) [it] it (fun i h=>IsRangeIter h it (lo+(i:Nat)*1) ((n:Int) - (i:Nat)) 1) where
 mem:=by simp
 obj:=fun i h st b hb=>by
  have e:b=it:=by simpa using hb
  subst e
  exact ⟨_,st,fun v z=>by
   have z':Data.fields _=Data.cell v:=z
   cases z'⟩
 keep:=fun i h h' st k=>k it (by simp) _ st
 item:=by
  intro X hP hw hK hc i pins s σ H E I hf st hg
  subst hP hw hK
  obtain ⟨f0,f1,f2,f3,f4,f5⟩:=hf it (by simp)
  have W:=Walks.range (prog:=X.prog) (w:=X.w) (I.ok.hd hc) it lo 1 n
  refine W.item i s _ _ hg st fun v h' tk hv st' kk=>?_
  obtain ⟨t,rfl⟩:=hv
  have I1:Inv X pins σ H { s with heap:=h',toks:=tk }:=I.turned (fun b o hb e=>kk b o (by simpa using hb) e) f0 f1 f3 f4 f5
  refine ⟨_,rfl,aFU (s:={ s with heap:=h',toks:=tk }) (n:="range_iterator") st' rfl rfl (by decide) ⟨.int (lo+i),H,I1,⟨t,?_⟩,⟨rfl,rfl⟩,st',fun b hb=>(hf b hb).1⟩⟩
  rw [Int.mul_one]
 done:=by
  intro X hP hw hK hc i pins s σ H E I hf st hg
  subst hP hw hK
  obtain ⟨f0,f1,f2,f3,f4,f5⟩:=hf it (by simp)
  exact wpAny_pyNext_range_end (I.ok.hd hc) st (by have:n<=i:=hg;omega) fun h' eb=>⟨rfl,I.turned (t':=s.toks) (fun b o hb e=>eb b o hb e) f0 f1 f3 f4 f5⟩
 self:=fun _ _ _ _ _ st h=>wpAny_pyIter_rangeiter st h
section
variable {X:Cx}{tg:Expr}
theorem yW {pins:List (Addr × Obj)}{σ:St}{H:Hp}{s:Shared}{R:It->Hp->Prop}{E:Value->Shared->Prop}{lo hi:Int}{t u v:Tok}{tk:Nat}(I:Inv X pins σ H s)(h1:-(2 ^ 62)<=lo)(h2:lo<2 ^ 62)(h3:-(2 ^ 62)<=hi)(h4:hi<2 ^ 62)
  (q:R (Itr lo (hi - lo).toNat) H):wpAny (model X.prog X.w) X.A (AR (.ref s.heap.objs.size)) (PIE X pins σ tg R) E { s with heap:=s.heap.push { cls := .type "range",data := .fields #[.int lo t, .int hi u, .int 1 v] },toks:=tk }:=by
 refine wpAny_pyIter_range (IsRange.new ..) (small_one h1 h2 h3 h4) ?_
 have I1:Inv X pins σ H { s with heap:=s.heap.push { cls := .type "range",data := .fields #[.int lo t, .int hi u, .int 1 v] },toks:=tk }:=I.kept fun b o e=>ao _ e
 refine ⟨(s.heap.push { cls := .type "range",data := .fields #[.int lo t, .int hi u, .int 1 v] }).objs.size,[(s.heap.push { cls := .type "range",data := .fields #[.int lo t, .int hi u, .int 1 v] }).objs.size],_,_,H,rfl,
  I1.kept (t':=tk) fun b o e=>ao _ e,aAw _ lo (hi - lo).toNat,?_,fun b hb=>?_,q⟩
 ·have e1:lo+((0:Nat):Int)*1=lo:=by simp
  have e2:(((hi - lo).toNat:Nat):Int) - ((0:Nat):Int)=Builtin.Range.rangeSize lo hi 1:=by rw [rangeSize_one];split <;> omega
  show IsRangeIter _ _ (lo+((0:Nat):Int)*1) ((((hi - lo).toNat:Nat):Int) - ((0:Nat):Int)) 1
  rw [e1,e2]
  exact bp _ rfl
 ·have e:b=(s.heap.push { cls := .type "range",data := .fields #[.int lo t, .int hi u, .int 1 v] }).objs.size:=by simpa using hb
  subst e
  exact I1.fpOk (ay _) (I1.hok.fresh (ay _))
def lQ (ta:TA):TI:=fun σ H R=>ta σ H fun vs H1=>∃ j:Int,vs=[.int j]/\-(2 ^ 62)<=j/\j<2 ^ 62/\R (Itr 0 j.toNat) H1
def aCV (ta:TA):TI:=fun σ H R=>ta σ H fun vs H1=>∃ i j:Int,vs=[.int i, .int j]/\(-(2 ^ 62)<=i/\i<2 ^ 62/\-(2 ^ 62)<=j/\j<2 ^ 62)/\R (Itr i (j - i).toNat) H1
theorem dA {a:Expr}{ta:TA}{p pos:Pos}(hg:Gl X "range")(hm:X.mg "range" = none)(ha:PA X [a] ta)(hs:fm [a] X.env=[(false,eval a X.env)]:=by rfl):PI X tg (.Call (.Name "range" p) [a] [] pos) (lQ ta):=by
 intro pins s σ H R I h
 refine Call_ (sV I hg hm boot_range (j8 (thn (ha pos pins s σ H _ I h) fun us s1 ⟨vs,H1,I1,r1,q1⟩=>?_) hs rfl))
 obtain ⟨j,e,q1,q2,q⟩:=q1
 subst e
 cases r1 with
 | cons r rr=>
  cases rr
  obtain ⟨t,rfl⟩:=r
  exact call_range_1 (yW I1 (by omega) (by omega) q1 q2 (by simpa using q))
theorem qB {a b:Expr}{ta:TA}{p pos:Pos}(hg:Gl X "range")(hm:X.mg "range" = none)(ha:PA X [a,b] ta)(hs:fm [a,b] X.env=[(false,eval a X.env),(false,eval b X.env)]:=by rfl)(hs2:fm [b] X.env=[(false,eval b X.env)]:=by rfl) :
  PI X tg (.Call (.Name "range" p) [a,b] [] pos) (aCV ta):=by
 intro pins s σ H R I h
 refine Call_ (sV I hg hm boot_range (j8 (thn (ha pos pins s σ H _ I h) fun us s1 ⟨vs,H1,I1,r1,q1⟩=>?_) (by rw [hs,hs2]) (by rw [hs2];rfl)))
 obtain ⟨i,j,e,⟨q1,q2,q3,q4⟩,q⟩:=q1
 subst e
 cases r1 with
 | cons r rr=>
  cases rr with
  | cons r' rr=>
   cases rr
   obtain ⟨t,rfl⟩:=r
   obtain ⟨t',rfl⟩:=r'
   exact call_range_2 (yW I1 q1 q2 q3 q4 q)
def mW (wi:TI) (g:TG) (tb:TS):TS:=fun D σ H=>wi σ H fun J H1=>∃ W:Nat->Nat->St->Hp->Prop,(∃ m,W 0 m σ H1)/\∀ i m σ H,W i m σ H ->
 (J.stop i H/\D.nx σ H)\/(J.go i H/\∃ N:St->Hp->Prop,(∀ σ' H',N σ' H'->∃ m',m'<m/\W (i+1) m' σ' H')/\∀ x H',J.yld i H x H'->g x σ H' fun σ2 H2=>tb { D with nx:=N,ct:=N,bk:=D.nx } σ2 H2)
def vL (fp:List Addr) (h:Heap):List (Addr × Obj):=fp.filterMap fun b=>(h.get? b).map fun o=>(b,o)
theorem kC {fp:List Addr}{h:Heap}{b:Addr}{o:Obj}(hb:b∈fp)(e:h.get? b=some o):(b,o)∈vL fp h:=ql.mpr ⟨b,hb,by rw [e];rfl⟩
theorem aAO {fp:List Addr}{h:Heap}{p:Addr × Obj}(hp:p∈vL fp h):p.1∈fp/\h.get? p.1=some p.2:=by
 obtain ⟨b,hb,e⟩:=ql.mp hp
 cases q:h.get? b with
 | none=>rw [q] at e;cases e
 | some o=>
  rw [q] at e
  have e':(b,o)=p:=cu e
  subst e'
  exact ⟨hb,q⟩
theorem Inv.pinned {pins:List (Addr × Obj)}{σ:St}{H:Hp}{s:Shared}{fp:List Addr}(I:Inv X pins σ H s)(hf:∀ b∈fp,FpOk X pins H b)(ho:∀ b∈fp,∃ o,s.heap.get? b=some o/\∀ v,o.data ≠ .cell v):Inv X (pins++vL fp s.heap) σ H s:=
 I.pins_of fun p hp=>(de.mp hp).elim (fun z=>I.pin p (dg _ z)) fun z=>by
  obtain ⟨hb,e⟩:=aAO z
  obtain ⟨f0,f1,f2,_⟩:=hf p.1 hb
  obtain ⟨o,e',d⟩:=ho p.1 hb
  rw [e] at e';cases e'
  exact ⟨e,f0,f1,f2,d⟩
theorem Inv.unpinned {pins pl:List (Addr × Obj)}{σ:St}{H:Hp}{s:Shared}(I:Inv X (pins++pl) σ H s):Inv X pins σ H s:=I.pins_of fun p hp=>I.pin p (dg _ (d5 _ hp))
theorem dR {iter:Expr}{body:List Stmt}{wi:TI}{g:TG}{tb:TS}{pos:Pos}(hp:PassesOwn (model X.prog X.w) X.A X.env X.xe)(hc:X.calm=true)(hi:PI X tg iter wi)(hg:PG X tg g)(hb:PSs X body tb)
  (hs:∀ x,ou iter X.env x=pure x:=by intro _;rfl):PS X (.For tg iter body [] pos) (mW wi g tb):=by
 intro pins s σ H D I h
 refine wpAny_For (thn (hi pins s σ H _ I h) fun v s1 h1=>thn h1 fun itv s2 h2=>?_) hs
 obtain ⟨it,fp,tn,J,H2,e,I2,T,st2,f2,W,⟨m0,w0⟩,turn⟩:=h2
 subst e
 have stat:∀ {H':Hp},(∀ b∈fp,H' b=none)->∀ b∈fp,FpOk X pins H' b:=fun hn b hb=>⟨hn b hb,(f2 b hb).2⟩
 refine codeAny_forLoop_any (fun n s'=>∃ i σ' H',Inv X pins σ' H' s'/\tn i s'.heap/\(∀ b∈fp,H' b=none)/\W i n σ' H') ?_ m0 ⟨0,σ,H2,I2,st2,fun b hb=>(f2 b hb).1,w0⟩
 rintro n s3 ⟨i,σ3,H3,I3,st3,fr3,w3⟩
 rcases turn i n σ3 H3 w3 with ⟨stop,qn⟩ | ⟨go,N,hN,step⟩
 ·refine lq hp (thn (T.done X rfl rfl rfl hc i pins s3 σ3 H3 X.xe I3 (stat fr3) st3 stop) fun r s4 ⟨hr,I4⟩=>?_)
  subst hr
  exact um ⟨σ3,H3,I4,qn⟩
 ·refine lq hp (thn (T.item X rfl rfl rfl hc i pins s3 σ3 H3 X.xe I3 (stat fr3) st3 go) fun r s4 ⟨u,hr,h4⟩=>?_)
  subst hr
  refine lq hp (thn h4 fun _ s5 ⟨x,H5,I5,r5,y5,st5,fr5⟩=>?_)
  have I5':=I5.pinned (stat fr5) (T.obj _ _ st5)
  refine lq hp (thn (hg _ s5 σ3 H5 x u _ I5' r5 (step x H5 y5)) fun _ s6 ⟨σ6,H6,I6,q6⟩=>?_)
  refine lq hp (thn (hb _ s6 σ6 H6 _ I6 q6) fun f s7 q7=>?_)
  have again:∀ {σ7:St} {H7:Hp},Inv X (pins++vL fp s5.heap) σ7 H7 s7->N σ7 H7->∃ m,m<n/\∃ i σ' H',Inv X pins σ' H' s7/\tn i s7.heap/\(∀ b∈fp,H' b=none)/\W i m σ' H':=fun {σ7 H7} I7 n7=>by
   obtain ⟨m',hm,w7⟩:=hN σ7 H7 n7
   refine ⟨m',hm,i+1,σ7,H7,I7.unpinned,T.keep _ _ _ st5 fun b hb o e=>(I7.pin (b,o) (dg _ (dg _ (kC hb e)))).1,fun b hb=>?_,w7⟩
   obtain ⟨o,e,d⟩:=T.obj _ _ st5 b hb
   exact (I7.pin (b,o) (dg _ (dg _ (kC hb e)))).2.1
  cases f with
  | next=>obtain ⟨σ7,H7,I7,n7⟩:=q7;exact again I7 n7
  | cont=>obtain ⟨σ7,H7,I7,n7⟩:=q7;exact again I7 n7
  | brk=>obtain ⟨σ7,H7,I7,q7⟩:=q7;exact ⟨σ7,H7,I7.unpinned,q7⟩
  | ret v=>obtain ⟨x7,σ7,H7,I7,r7,q7⟩:=q7;exact ⟨x7,σ7,H7,I7.unpinned,r7,q7⟩
end
theorem cN {K:ae}{a:Addr}{xs:List V}{g:TG}{tb:TS}{D:mJ}{σ:St}{H:Hp}(Pv:Nat->St->Hp->Prop)(h0:Pv 0 σ H)(hl:∀ i σ H,i<=xs.length->Pv i σ H->SqL K H a xs)
  (hs:∀ i x σ H,xs[i]?=some x->Pv i σ H->g x σ H fun σ2 H2=>tb { D with nx:=Pv (i+1),ct:=Pv (i+1),bk:=D.nx } σ2 H2) (hd:∀ σ H,Pv xs.length σ H->D.nx σ H) :
  ∃ W:Nat->Nat->St->Hp->Prop,(∃ m,W 0 m σ H)/\∀ i m σ H,W i m σ H ->
   ((Itl K a).stop i H/\D.nx σ H)\/((Itl K a).go i H/\∃ N:St->Hp->Prop,(∀ σ' H',N σ' H'->∃ m',m'<m/\W (i+1) m' σ' H')/\∀ x H',(Itl K a).yld i H x H'->g x σ H' fun σ2 H2=>tb { D with nx:=N,ct:=N,bk:=D.nx } σ2 H2):=by
 refine ⟨fun i m σ H=>m=xs.length - i/\i<=xs.length/\Pv i σ H,⟨xs.length,by simp,bh _,h0⟩,?_⟩
 rintro i m σ H ⟨rfl,hi,p⟩
 have q:=hl i σ H hi p
 by_cases hlt:i<xs.length
 ·refine .inr ⟨⟨xs,xs[i],q,by simp [hlt]⟩,Pv (i+1),fun σ' H' p'=>⟨xs.length - (i+1),by omega,rfl,hlt,p'⟩,fun x H' y=>?_⟩
  obtain ⟨e,y⟩:=y
  subst e
  exact hs i x σ _ (y xs q) p
 ·have e:i=xs.length:=by omega
  subst e
  exact .inl ⟨⟨xs,q,ay _⟩,hd σ H p⟩
theorem qS {K:ae}{a:Addr}{xs:List V}{g:TG}{tb:TS}{D:mJ}{σ:St}{H:Hp}(Pv:Nat->St->Hp->Prop)(h0:Pv 0 σ H)(hl:∀ i σ H,i<=xs.length->Pv i σ H->SqT K H a xs)
  (hs:∀ i x σ H,xs[i]?=some x->Pv i σ H->g x σ H fun σ2 H2=>tb { D with nx:=Pv (i+1),ct:=Pv (i+1),bk:=D.nx } σ2 H2) (hd:∀ σ H,Pv xs.length σ H->D.nx σ H) :
  ∃ W:Nat->Nat->St->Hp->Prop,(∃ m,W 0 m σ H)/\∀ i m σ H,W i m σ H ->
   ((Itt K a).stop i H/\D.nx σ H)\/((Itt K a).go i H/\∃ N:St->Hp->Prop,(∀ σ' H',N σ' H'->∃ m',m'<m/\W (i+1) m' σ' H')/\∀ x H',(Itt K a).yld i H x H'->g x σ H' fun σ2 H2=>tb { D with nx:=N,ct:=N,bk:=D.nx } σ2 H2):=by
 refine ⟨fun i m σ H=>m=xs.length - i/\i<=xs.length/\Pv i σ H,⟨xs.length,by simp,bh _,h0⟩,?_⟩
 rintro i m σ H ⟨rfl,hi,p⟩
 have q:=hl i σ H hi p
 by_cases hlt:i<xs.length
 ·refine .inr ⟨⟨xs,xs[i],q,by simp [hlt]⟩,Pv (i+1),fun σ' H' p'=>⟨xs.length - (i+1),by omega,rfl,hlt,p'⟩,fun x H' y=>?_⟩
  obtain ⟨e,y⟩:=y
  subst e
  exact hs i x σ _ (y xs q) p
 ·have e:i=xs.length:=by omega
  subst e
  exact .inl ⟨⟨xs,q,ay _⟩,hd σ H p⟩
theorem cZ {lo:Int}{n:Nat}{g:TG}{tb:TS}{D:mJ}{σ:St}{H:Hp}(Pv:Nat->St->Hp->Prop)(h0:Pv 0 σ H)
  (hs:∀ i σ H,i<n->Pv i σ H->g (.int (lo+i)) σ H fun σ2 H2=>tb { D with nx:=Pv (i+1),ct:=Pv (i+1),bk:=D.nx } σ2 H2) (hd:∀ σ H,Pv n σ H->D.nx σ H) :
  ∃ W:Nat->Nat->St->Hp->Prop,(∃ m,W 0 m σ H)/\∀ i m σ H,W i m σ H ->
   ((Itr lo n).stop i H/\D.nx σ H)\/((Itr lo n).go i H/\∃ N:St->Hp->Prop,(∀ σ' H',N σ' H'->∃ m',m'<m/\W (i+1) m' σ' H')/\∀ x H',(Itr lo n).yld i H x H'->g x σ H' fun σ2 H2=>tb { D with nx:=N,ct:=N,bk:=D.nx } σ2 H2):=by
 refine ⟨fun i m σ H=>m=n - i/\i<=n/\Pv i σ H,⟨n,by simp,bh _,h0⟩,?_⟩
 rintro i m σ H ⟨rfl,hi,p⟩
 by_cases hlt:i<n
 ·refine .inr ⟨hlt,Pv (i+1),fun σ' H' p'=>⟨n - (i+1),by omega,rfl,hlt,p'⟩,fun x H' y=>?_⟩
  obtain ⟨e,y⟩:=y
  subst e y
  exact hs i σ _ hlt p
 ·have e:i=n:=by omega
  subst e
  exact .inl ⟨ay _,hd σ H p⟩
abbrev R2:=V->V->Hp->VK->Prop
def OpR (X:Cx) (f:Value->Value->Sem Value) (r:R2):Prop:=
 ∀ (pins:List (Addr × Obj)) (s:Shared) (σ:St) (H:Hp) (x y:V) (v u:Value) (Q:VK),Inv X pins σ H s->RelV x v->RelV y u->r x y H Q ->
  wpAny (model X.prog X.w) X.A (f v u) (EP X pins σ Q) X.xe s
def UnR (X:Cx) (f:Value->Sem Value) (r:V->Hp->VK->Prop):Prop:=
 ∀ (pins:List (Addr × Obj)) (s:Shared) (σ:St) (H:Hp) (x:V) (v:Value) (Q:VK),Inv X pins σ H s->RelV x v->r x H Q ->
  wpAny (model X.prog X.w) X.A (f v) (EP X pins σ Q) X.xe s
def CallR (X:Cx) (f:Value) (r:List V->Hp->VK->Prop):Prop:=
 ∀ (pins:List (Addr × Obj)) (s:Shared) (σ:St) (H:Hp) (xs:List V) (us:List Value) (Q:VK),Inv X pins σ H s->Vals xs us->r xs H Q ->
  wpAny (model X.prog X.w) X.A (call f us) (EP X pins σ Q) X.xe s
def aJG (X:Cx) (r:V->Hp->(Bool->Hp->Prop)->Prop):Prop:=
 ∀ (pins:List (Addr × Obj)) (s:Shared) (σ:St) (H:Hp) (x:V) (v:Value) (Q:Bool->Hp->Prop),Inv X pins σ H s->RelV x v->r x H Q ->
  wpAny (model X.prog X.w) X.A (truthy v) (TP X pins σ Q) X.xe s
def tOp (r:R2) (ta tb:TE):TE:=fun σ H Q=>ta σ H fun x H1=>tb σ H1 fun y H2=>r x y H2 Q
def tUn (r:V->Hp->VK->Prop) (ta:TE):TE:=fun σ H Q=>ta σ H fun x H1=>r x H1 Q
def rI (C:Int->Int->Prop) (g:Int->Int->V):R2:=fun x y H Q=>∃ i j,x = .int i/\y = .int j/\C i j/\Q (g i j) H
inductive aJm (g:Int->Int->V) (x y:V) (H:Hp) (Q:VK):Prop
 | mk (i j:Int) (hx:x = .int i) (hy:y = .int j) (q:Q (g i j) H):aJm g x y H Q
def rI0 (g:Int->Int->V):R2:=fun x y H Q=>aJm g x y H Q
def rU (g:Int->V):V->Hp->VK->Prop:=fun x H Q=>∃ i,x = .int i/\Q (g i) H
section
variable {X:Cx}{a b c:Expr}{ta tb tc:TE}{pos:Pos}
theorem aIA (ha:PE X a ta)(hb:PE X b tb){pins:List (Addr × Obj)}{s:Shared}{σ:St}{H:Hp}{R:V->V->Hp->Prop}(I:Inv X pins σ H s)
  (h:ta σ H fun x H1=>tb σ H1 fun y H2=>R x y H2) {Q:Value->Shared->Prop} {f:Value->Value->Sem Value}
  (hf:∀ v u s2 x y H2,Inv X pins σ H2 s2->RelV x v->RelV y u->R x y H2->wpAny (model X.prog X.w) X.A (f v u) Q X.xe s2) :
  wpAny (model X.prog X.w) X.A (eval a X.env) (fun v s₁=>wpAny (model X.prog X.w) X.A (eval b X.env) (fun u s₂=>wpAny (model X.prog X.w) X.A (f v u) Q X.xe s₂) X.xe s₁) X.xe s:=by
 refine thn (ha pins s σ H _ I h) fun v s1 ⟨x,H1,I1,r1,q1⟩=>?_
 refine thn (hb pins s1 σ H1 _ I1 q1) fun u s2 ⟨y,H2,I2,r2,q2⟩=>?_
 exact hf v u s2 x y H2 I2 r1 r2 q2
theorem aW {op:Operator}{r:R2}(ho:OpR X (lh op) r)(ha:PE X a ta)(hb:PE X b tb):PE X (.BinOp a op b pos) (tOp r ta tb):=by
 intro pins s σ H Q I h
 exact wpAny_BinOp (aIA ha hb I h fun v u s2 x y H2 I2 rx ry q=>ho pins s2 σ H2 x y v u Q I2 rx ry q)
theorem aIF {op:UnaryOp}{r:V->Hp->VK->Prop}(ho:UnR X (unaryOp op) r)(ha:PE X a ta):PE X (.UnaryOp op a pos) (tUn r ta):=by
 intro pins s σ H Q I h
 exact UnaryOp_ (thn (ha pins s σ H _ I h) fun v s1 ⟨x,H1,I1,r1,q1⟩=>ho pins s1 σ H1 x v Q I1 r1 q1)
theorem opI {f:Value->Value->Sem Value}{C:Int->Int->Prop}{g:Int->Int->Int}
  (rule:∀ (i j:Int) (t u:Tok) (s:Shared) (Q:Value->Shared->Prop) (E:Value->Shared->Prop),C i j->Q (.int (g i j) s.toks) { s with toks:=s.toks+1 }->wpAny (model X.prog X.w) X.A (f (.int i t) (.int j u)) Q E s) :
  OpR X f (rI C fun i j => .int (g i j)):=by
 intro pins s σ H x y v u Q I rx ry h
 obtain ⟨i,j,rfl,rfl,hc,q⟩:=h
 obtain ⟨t,rfl⟩:=rx
 obtain ⟨t',rfl⟩:=ry
 exact rule i j t t' s _ _ hc ⟨.int (g i j),H,I.tok _,⟨_,rfl⟩,q⟩
theorem aJh {f:Value->Value->Sem Value}{g:Int->Int->Int}
  (rule:∀ (i j:Int) (t u:Tok) (s:Shared) (Q:Value->Shared->Prop) (E:Value->Shared->Prop),Q (.int (g i j) s.toks) { s with toks:=s.toks+1 }->wpAny (model X.prog X.w) X.A (f (.int i t) (.int j u)) Q E s) :
  OpR X f (rI0 fun i j => .int (g i j)):=by
 intro pins s σ H x y v u Q I rx ry h
 obtain ⟨i,j,rfl,rfl,q⟩:=h
 obtain ⟨t,rfl⟩:=rx
 obtain ⟨t',rfl⟩:=ry
 exact rule i j t t' s _ _ ⟨.int (g i j),H,I.tok _,⟨_,rfl⟩,q⟩
theorem aHM {f:Value->Value->Sem Value}{g:Int->Int->Bool}
  (rule:∀ (i j:Int) (t u:Tok) (s:Shared) (Q:Value->Shared->Prop) (E:Value->Shared->Prop),Q (.bool (g i j)) s->wpAny (model X.prog X.w) X.A (f (.int i t) (.int j u)) Q E s) :
  OpR X f (rI0 fun i j => .bl (g i j)):=by
 intro pins s σ H x y v u Q I rx ry h
 obtain ⟨i,j,rfl,rfl,q⟩:=h
 obtain ⟨t,rfl⟩:=rx
 obtain ⟨t',rfl⟩:=ry
 exact rule i j t t' s _ _ ⟨.bl (g i j),H,I,rfl,q⟩
def aJr (i j:Int):Prop:=0<=j/\j<=1000000/\i.natAbs<2 ^ 64
def CMul (i j:Int):Prop:=(-(2 ^ 64)<i/\i<2 ^ 64)\/(-(2 ^ 64)<j/\j<2 ^ 64)
theorem CMul.ok {i j:Int}(h:CMul i j):IntMulOk i j:=by
 rcases h with ⟨h1,h2⟩ | ⟨h1,h2⟩
 ·exact .of_left (intBits_le_64 h1 h2)
 ·exact .of_right (intBits_le_64 h1 h2)
theorem aGX:OpR X (lh .Add) (rI0 fun i j => .int (i+j)):=aJh fun _ _ _ _ _ _ _ q=>add_int q
theorem eI:OpR X (lh .Sub) (rI0 fun i j => .int (i - j)):=aJh fun _ _ _ _ _ _ _ q=>sub_int q
theorem aGO:OpR X (lh .Mult) (rI CMul fun i j => .int (i*j)):=opI fun _ _ _ _ _ _ _ hc q=>mul_int q hc.ok
theorem jW:OpR X (lh .Mod) (rI (fun _ j=>0<j) fun i j => .int (i % j)):=opI fun i j _ _ _ _ _ hc q=>by
 have h1:(0:Int)<j:=hc
 exact mod_int' (by omega) (by rw [Int.fmod_eq_emod_of_nonneg i (by omega)];exact q)
theorem nP:OpR X (lh .Pow) (rI aJr fun i j => .int (i ^ j.toNat)):=opI fun _ _ _ _ _ _ _ hc q=>pow_int_small hc.1 hc.2.1 hc.2.2 q
theorem unI {f:Value->Sem Value}{g:Int->Int}
  (rule:∀ (i:Int) (t:Tok) (s:Shared) (Q:Value->Shared->Prop) (E:Value->Shared->Prop),Q (.int (g i) s.toks) { s with toks:=s.toks+1 }->wpAny (model X.prog X.w) X.A (f (.int i t)) Q E s) :
  UnR X f (rU fun i => .int (g i)):=by
 intro pins s σ H x v Q I rx h
 obtain ⟨i,rfl,q⟩:=h
 obtain ⟨t,rfl⟩:=rx
 exact rule i t s _ _ ⟨.int (g i),H,I.tok _,⟨_,rfl⟩,q⟩
theorem aHE:UnR X (unaryOp .USub) (rU fun i => .int (-i)):=unI fun _ _ _ _ _ q=>neg_int q
end
section
variable {X:Cx}{a b c:Expr}{ta tb tc:TE}{pos:Pos}
theorem aEs {pins:List (Addr × Obj)}{σ:St}{H:Hp}{s:Shared}{Q:VK}{k k':Bool}(I:Inv X pins σ H s)(q:Q (.bl k) H)(e:k=k'):EP X pins σ Q (.bool k') s:=by
 subst e
 exact ⟨.bl k,H,I,rfl,q⟩
theorem uN:OpR X (i7 .Lt) (rI0 fun i j => .bl (decide (i<j))):=aHM fun _ _ _ _ _ _ _ q=>lt_int q
theorem aIW:OpR X (i7 .LtE) (rI0 fun i j => .bl (decide (i<=j))):=aHM fun _ _ _ _ _ _ _ q=>le_int q
theorem aAn:OpR X (i7 .Gt) (rI0 fun i j => .bl (decide (j<i))):=aHM fun _ _ _ _ _ _ _ q=>gt_int q
theorem aIO:OpR X (i7 .GtE) (rI0 fun i j => .bl (decide (j<=i))):=aHM fun _ _ _ _ _ _ _ q=>ge_int q
theorem aGt:OpR X (i7 .Is) (fun x y H Q=>y = .non/\Q (.bl (decide (x = .non))) H):=by
 intro pins s σ H x y v u Q I rx ry h
 obtain ⟨rfl,q⟩:=h
 cases ry
 refine is_none_gen (aEs I q ?_)
 cases x <;> first
  | (cases rx;rfl)
  | (obtain ⟨t,rfl⟩:=rx;rfl)
theorem OpR.or {f:Value->Value->Sem Value}{r r':R2}(h:OpR X f r)(h':OpR X f r'):OpR X f (fun x y H Q=>r x y H Q\/r' x y H Q):=by
 intro pins s σ H x y v u Q I rx ry q
 rcases q with q | q
 ·exact h pins s σ H x y v u Q I rx ry q
 ·exact h' pins s σ H x y v u Q I rx ry q
theorem bX (b:Expr){op:CmpOp}(h:op ≠ .In:=by decide)(h2:op ≠ .NotIn:=by decide):ud op b=false:=by
 have e1:(op == CmpOp.In)=false:=by cases op <;> first | rfl | exact absurd rfl h
 have e2:(op == CmpOp.NotIn)=false:=by cases op <;> first | rfl | exact absurd rfl h2
 cases b <;> simp [ud,e1,e2]
theorem iH {op:CmpOp}{r:R2}(ho:OpR X (i7 op) r)(ha:PE X a ta)(hb:PE X b tb)(hm:ud op b=false):PE X (.Compare a [op] [b] pos) (tOp r ta tb):=by
 intro pins s σ H Q I h
 exact wpAny_Compare1 (aIA ha hb I h fun v u s2 x y H2 I2 rx ry q=>ho pins s2 σ H2 x y v u Q I2 rx ry q) hm
inductive TBP (x:V) (H:Hp) (Q:Bool->Hp->Prop):Prop
 | mk (k:Bool) (e:x = .bl k) (q:Q k H):TBP x H Q
def bZ (t:TE):TT:=fun σ H Q=>t σ H fun x H'=>TBP x H' Q
theorem bK {op:CmpOp}{r:R2}(ho:OpR X (i7 op) r)(ha:PE X a ta)(hb:PE X b tb)(hm:ud op b=false):PT X (.Compare a [op] [b] pos) (bZ (tOp r ta tb)):=by
 intro pins s σ H Q I h
 refine yg (thn (ha pins s σ H _ I h) fun v s1 ⟨x,H1,I1,r1,q1⟩=>thn (hb pins s1 σ H1 _ I1 q1) fun u s2 ⟨y,H2,I2,r2,q2⟩=>
  thn (ho pins s2 σ H2 x y v u _ I2 r1 r2 q2) fun c s3 ⟨z,H3,I3,r3,k,e,q3⟩=>?_) hm
 subst e
 cases r3
 exact ir ⟨H3,I3,q3⟩
def aIz (K:ae) (x:V) (H:Hp) (k:Bool):Prop:=
 match x with
 | .non=>k=false
 | .bl b=>k=b
 | .int i=>k=(i != 0)
 | .str y=>y.length<=ba/\k=((y.length:Int) != 0)
 | .byt y=>y.size<=ba/\k=((y.size:Int) != 0)
 | .ref p=>(∃ xs,SqL K H p xs/\k = !xs.isEmpty)\/(∃ xs,SqT K H p xs/\k = !xs.isEmpty)\/∃ kvs,H p=some (.dK kvs)/\k = !kvs.isEmpty
 | _=>False
theorem aAk {κ:Type}{kvs:List (κ × V)}{vs:List (κ × Value)}(r:KV kvs vs):(!vs.isEmpty) = !kvs.isEmpty:=by
 cases r <;> rfl
theorem sK {xs:List V}{its:List Value}(r:Vals xs its):(!its.toArray.isEmpty) = !xs.isEmpty:=by
 cases r <;> simp
theorem vN:(ba:Nat)<2 ^ 63:=by rw [j9];decide
theorem aGr:aJG X (fun x H Q=>∃ k,aIz X.K x H k/\Q k H):=by
 intro pins s σ H x v Q I rx h
 obtain ⟨k,e,q⟩:=h
 have hl:=vN
 have hs:ba=16777216:=j9
 cases x with
 | non=>
  cases rx
  have e':k=false:=e
  subst e'
  exact truthy_none ⟨H,I,q⟩
 | bl b=>
  cases rx
  have e':k=b:=e
  subst e'
  exact ir ⟨H,I,q⟩
 | int i=>
  obtain ⟨t,rfl⟩:=rx
  have e':k=(i != 0):=e
  subst e'
  exact PySem.P.truthy_int ⟨H,I,q⟩
 | str y=>
  obtain ⟨t,rfl⟩:=rx
  obtain ⟨hy,e'⟩:y.length<=ba/\k=((y.length:Int) != 0):=e
  subst e'
  exact PySem.P.truthy_str (by omega) ⟨H,I.tok _,q⟩
 | byt y=>
  obtain ⟨t,rfl⟩:=rx
  obtain ⟨hy,e'⟩:y.size<=ba/\k=((y.size:Int) != 0):=e
  subst e'
  exact PySem.W.truthy_bytes (by omega) ⟨H,I.tok _,q⟩
 | ref p=>
  cases rx
  have e':(∃ xs,SqL X.K H p xs/\k = !xs.isEmpty)\/(∃ xs,SqT X.K H p xs/\k = !xs.isEmpty)\/∃ kvs,H p=some (.dK kvs)/\k = !kvs.isEmpty:=e
  rcases e' with ⟨xs,hx,e'⟩ | ⟨xs,hx,e'⟩ | ⟨kvs,hx,e'⟩
  ·subst e'
   obtain ⟨its,r,pl,hz⟩:=I.list hx
   have hlen:=r.length
   exact wpAny_truthy_list pl.isList (by simp only [aq];omega) ⟨H,I.tok _,by rw [sK r];exact q⟩
  ·subst e'
   obtain ⟨its,r,pl,hz⟩:=I.tuple hx
   have hlen:=r.length
   exact truthy_tuple pl (by simp only [aq];omega) ⟨H,I.tok _,by rw [sK r];exact q⟩
  ·subst e'
   obtain ⟨hz,hS,vs,r,m⟩:kvs.length<=ba/\(p == j5)=false/\∃ vs,KV kvs vs/\s.heap.DictOf (dO X.prog X.w) p vs:=I.hok p _ hx
   have hlen:kvs.length=vs.length:=w9 r
   exact wpAny_truthy_dict hS m (by omega) ⟨H,I.tok _,by rw [aAk r];exact q⟩
 | _=>exact (show False from e).elim
theorem aDz (ha:PE X a ta)(he:∀ whole,isTrue a X.env whole=(do let v <- whole;Ab a.pos;xb [v] (truthy v))) :
  PT X a (fun σ H Q=>ta σ H fun x H'=>∃ k,aIz X.K x H' k/\Q k H'):=by
 intro pins s σ H Q I h
 exact isTrue_plain (thn (ha pins s σ H _ I h) fun v s1 ⟨x,H1,I1,r1,q1⟩=>aGr pins s1 σ H1 x v Q I1 r1 q1) (he _)
theorem aAz:OpR X (lh .Add) (fun x y H Q=>∃ i j,x = .str i/\y = .str j/\i.length+j.length<=ba/\Q (.str (i++j)) H):=by
 intro pins s σ H x y v u Q I rx ry h
 obtain ⟨i,j,rfl,rfl,hz,q⟩:=h
 obtain ⟨t,rfl⟩:=rx
 obtain ⟨t',rfl⟩:=ry
 exact add_str (fun t' tk=>⟨.str (i++j),H,I.tok _,⟨_,rfl⟩,q⟩) hz
theorem rN {x:V}{us:List Value}(r:Vals [x] us):∃ u,us=[u]/\RelV x u:=by
 cases r with
 | cons r1 r2=>cases r2;exact ⟨_,rfl,r1⟩
theorem aGw {x y:V}{us:List Value}(r:Vals [x,y] us):∃ u w',us=[u,w']/\RelV x u/\RelV y w':=by
 cases r with
 | cons r1 r2=>
  cases r2 with
  | cons r3 r4=>cases r4;exact ⟨_,_,rfl,r1,r3⟩
theorem aDg:CallR X (.builtin "abs") (fun xs H Q=>∃ i,xs=[.int i]/\Q (.int (if i<0 then -i else i)) H):=by
 intro pins s σ H xs us Q I r h
 obtain ⟨i,rfl,q⟩:=h
 obtain ⟨u,rfl,t,rfl⟩:=rN r
 exact call_abs_int fun u tk=>⟨.int (if i<0 then -i else i),H,I.tok _,⟨_,rfl⟩,q⟩
theorem aBT (hc:X.calm=true):CallR X (.builtin "max") (fun xs H Q=>∃ i j,xs=[.int i, .int j]/\Q (.int (if j > i then j else i)) H):=by
 intro pins s σ H xs us Q I r h
 obtain ⟨i,j,rfl,q⟩:=h
 obtain ⟨u,w',rfl,⟨t,rfl⟩,⟨t',rfl⟩⟩:=aGw r
 refine max_two_ints (I.ok.hd hc) fun h' tk k=>⟨_,H,I.kept k,?_,q⟩
 by_cases hj:j > i
 ·rw [if_pos hj,if_pos hj];exact ⟨_,rfl⟩
 ·rw [if_neg hj,if_neg hj];exact ⟨_,rfl⟩
theorem aCr (hc:X.calm=true):CallR X (.builtin "min") (fun xs H Q=>∃ i j,xs=[.int i, .int j]/\Q (.int (if j<i then j else i)) H):=by
 intro pins s σ H xs us Q I r h
 obtain ⟨i,j,rfl,q⟩:=h
 obtain ⟨u,w',rfl,⟨t,rfl⟩,⟨t',rfl⟩⟩:=aGw r
 refine min_two_ints (I.ok.hd hc) fun h' tk k=>⟨_,H,I.kept k,?_,q⟩
 by_cases hj:j<i
 ·rw [if_pos hj,if_pos hj];exact ⟨_,rfl⟩
 ·rw [if_neg hj,if_neg hj];exact ⟨_,rfl⟩
theorem aBc:CallR X (.type "int") (fun xs H Q=>(∃ i,xs=[.int i]/\Q (.int i) H)\/∃ k,xs=[.bl k]/\Q (.int (if k then 1 else 0)) H):=by
 intro pins s σ H xs us Q I r h
 rcases h with ⟨i,rfl,q⟩ | ⟨k,rfl,q⟩
 ·obtain ⟨u,rfl,t,rfl⟩:=rN r
  exact call_int_int ⟨.int i,H,I,⟨_,rfl⟩,q⟩
 ·obtain ⟨u,rfl,r1⟩:=rN r
  cases r1
  exact call_int_bool ⟨.int (if k then 1 else 0),H,I.tok _,⟨_,rfl⟩,q⟩
end
section
variable {prog:Program}{w:World}{A:Around}{E:Value->Shared->Prop}{s:Shared}{K:ae}{x dx C f:Addr}{mA:Str->Option Value}{name:Str}{v:Value}
end
theorem RelO.some_of {v:V}{o:Option Value}(r:RelO (some v) o):∃ u,o=some u/\RelV v u:=by
 cases o with
 | none=>exact (show False from r).elim
 | some u=>exact ⟨u,rfl,r⟩
section
variable {P:Program}{w:World}{H H':Hp}{h h':Heap}{a C dx:Addr}{fs fs':List (Str × V)}
end
section
variable {X:Cx}{pins:List (Addr × Obj)}{σ:St}{H:Hp}{s:Shared}{a C dx:Addr}{fs:List (Str × V)}{f:Str}{v:V}{A:Around}{E:Value->Shared->Prop}
end
section
variable {X:Cx}{o e value:Expr}{f:Str}{pos pos' tpos:Pos}{ta tv:TE}
end
section
variable {X:Cx}{pins:List (Addr × Obj)}{σ:St}{H:Hp}{s:Shared}{A:Around}{E:Value->Shared->Prop}{Q:Value->Shared->Prop}{c:Value}{b:Bool}
end
structure Room (k:Nat)(A:Around):Prop where
 hd:A.handled=none
 dp:A.depth+3*k+5<recursionLimit
 un:A.units+16*k+200<cLine
 gd:A.guards=some []
theorem Room.mono {j k:Nat}{A:Around}(r:Room k A)(h:j<=k):Room j A:=⟨r.hd,by have:=r.dp;omega,by have:=r.un;omega,r.gd⟩
theorem Room.deeper {k:Nat}{A:Around}(r:Room (k+1) A)(env:Env):Room k (A.deeper env):=
 ⟨r.hd,by have:=r.dp;show A.depth+1+3*k+5<_;omega,by have:=r.un;show A.units+3+16*k+200<_;omega,r.gd⟩
theorem Room.depth {k:Nat}{A:Around}(r:Room k A):A.depth<recursionLimit:=by have:=r.dp;omega
theorem Room.units {k:Nat}{A:Around}(r:Room k A):A.units+64<cLine:=by have:=r.un;omega
def aQ:TA:=fun _ H Q=>Q [] H
def aB (ta:TE) (tr:TA):TA:=fun σ H Q=>ta σ H fun x H1=>tr σ H1 fun xs H2=>Q (x :: xs) H2
section
variable {X:Cx}{e:Expr}{es:List Expr}{te:TE}{t:TA}{pos:Pos}
theorem aD:PA X [] aQ:=fun _ _ _ _ H Q I h=>Calls.spliced_nil ⟨[],H,I, .nil,h⟩
theorem cW (ha:PE X e te)(hr:PA X es t)(hs:fm (e :: es) X.env=(false,eval e X.env) :: fm es X.env:=by rfl):PA X (e :: es) (aB te t):=by
 intro pos pins s σ H Q I h
 rw [hs]
 show wpAny _ _ (spliced ((false,eval e X.env) :: vg pos (fm es X.env))) _ _ s
 refine Calls.spliced_cons (thn (ha pins s σ H _ I h) fun u s1 ⟨x,H1,I1,r1,q1⟩=>?_)
 exact thn (hr pos pins s1 σ H1 _ I1 q1) fun us s2 ⟨xs,H2,I2,r2,q2⟩=>⟨x :: xs,H2,I2, .cons r1 r2,q2⟩
def gW (t:TA):TE:=fun σ H Q=>t σ H fun xs H1=>xs.length<=ba/\∀ p,H1 p=none->Q (.ref p) (upd H1 p (.tup xs))
def oR (t:TA):TE:=fun σ H Q=>t σ H fun xs H1=>xs.length<=ba/\∀ p,H1 p=none->Q (.ref p) (upd H1 p (.lst xs))
theorem cJ {x1}(h:PA X es t):PE X (.Tuple es x1 pos) (gW t):=by
 intro pins s σ H Q I hq
 refine wpAny_Tuple_spliced (thn (h pos pins s σ H _ I hq) fun us s1 ⟨xs,H1,I1,r,z,q⟩=>⟨by rw [<- r.length];exact z,?_⟩)
 have hf:H1 s1.heap.objs.size=none:=I1.hok.fresh (ay _)
 refine ⟨.ref s1.heap.objs.size,upd H1 s1.heap.objs.size (.tup xs),I1.laid (t':=s1.toks) (fun b u e=>ao _ e) (ay _) ?_,rfl,q _ hf⟩
 exact ⟨z,us,r,TupN.new _ _⟩
theorem fS (h:PA X es t):PE X (.List es pos) (oR t):=by
 intro pins s σ H Q I hq
 refine wpAny_List_spliced (thn (h pos pins s σ H _ I hq) fun us s1 ⟨xs,H1,I1,r,z,q⟩=>⟨by rw [<- r.length];exact z,?_⟩)
 have hf:H1 s1.heap.objs.size=none:=I1.hok.fresh (ay _)
 refine ⟨.ref s1.heap.objs.size,upd H1 s1.heap.objs.size (.lst xs),I1.laid (t':=s1.toks) (fun b u e=>ao _ e) (ay _) ?_,rfl,q _ hf⟩
 exact ⟨z,us,0,r,bp _ rfl⟩
end
abbrev Sp:=List V->Hp->VK->XK->Prop
abbrev CXT:=List Env->Hp->Shared->XK->Value->Shared->Prop
structure aHP (P:Program)(w:World)(K:ae)(mg:Str->Option Value)(base:Heap)(A:Around)(outer:List Env)(s:Shared)(H:Hp):Prop where
 frames:A.frames=some outer
 mod:Mod K mg base
 bs:∀ b o,base.get? b=some o->s.heap.get? b=some o/\H b=none
 bsz:base.objs.size<=s.heap.objs.size
 funs:s.heap.FunFrames base outer
 frf:∀ b∈frs outer,H b=none
 hok:HOk P w H s.heap
 bare:v8 s.gens
def CE (outer:List Env) (P:Program) (w:World) (H:Hp) (s:Shared) (Q:VK) (u:Value) (s':Shared):Prop:=
 ∃ v H',s'.os=s.os/\v8 s'.gens/\Un (frs outer) [] H H' s.heap s'.heap/\HOk P w H' s'.heap/\RelV v u/\Q v H'
def CR (CX:CXT) (outer:List Env) (P:Program) (w:World) (H:Hp) (s:Shared) (Q:VK) (E:XK) (r:zq) (s':Shared):Prop:=
 match r with
 | .ok (.ret u)=>CE outer P w H s Q u s'
 | .ok _=>False
 | .error e=>CX outer H s E e s'
structure FnOk (P:Program)(w:World)(K:ae)(mg:Str->Option Value)(base:Heap)(CX:CXT)(k:Nat)(f:Addr)(fd:FuncData)(ps:List Str)(sp:Sp):Prop where
 len:∀ vs H Q E,sp vs H Q E->vs.length=ps.length
 run:∀ (A:Around) (outer:List Env) (s:Shared) (H:Hp) (args:Args) (us:List Value) (vs:List V) (Q:VK) (E:XK),Room k A->aHP P w K mg base A outer s H->A9 s fd args (ps.zip us)->Vals vs us->sp vs H Q E ->
  uq (model P w) A (.call (.ref f) args) (CR CX outer P w H s Q E) s
theorem FnOk.mono {P:Program}{w:World}{K:ae}{mg:Str->Option Value}{base:Heap}{CX:CXT}{j k:Nat}{f:Addr}{fd:FuncData}{ps:List Str}{sp:Sp}(F:FnOk P w K mg base CX j f fd ps sp)(h:j<=k) :
  FnOk P w K mg base CX k f fd ps sp:=⟨F.len,fun A outer s H args us vs Q E hr=>F.run A outer s H args us vs Q E (hr.mono h)⟩
section
variable {X:Cx}{pins:List (Addr × Obj)}{σ:St}{H:Hp}{s s':Shared}
theorem Inv.env0 (I:Inv X pins σ H s):aHP X.prog X.w X.K X.mg X.base X.A X.stack s H:=
 ⟨I.ok.frames,I.ok.mod,I.bs,et I.ok.bsz I.sz,I.stack,I.stkFree,I.hok,I.bare⟩
theorem Inv.after {Q:VK}{u:Value}(I:Inv X pins σ H s)(h:CE X.stack X.prog X.w H s Q u s'):EP X pins σ Q u s':=by
 obtain ⟨v,H',os,bare,un,hok,r,q⟩:=h
 obtain ⟨hh,g,d,t,os'⟩:=s'
 obtain rfl:os'=s.os:=os
 exact ⟨v,H',I.call (h':=hh) (g':=g) (d':=d) (t':=t) (ch:=[]) un hok bare (fun b z=>absurd z (by simp)),r,q⟩
end
def bG (sp:Sp) (dvs:List V) (E:XK) (t:TA):TE:=fun σ H Q=>t σ H fun vs H1=>sp (vs++dvs) H1 Q E
def Binds (K:ae) (fd:FuncData) (ps:List Str) (ds:List Value):Prop:=
 ∀ (s:Shared) (us:List Value),K.In s.heap->(us++ds).length=ps.length->A9 s fd ⟨us,[]⟩ (ps.zip (us++ds))
theorem Binds.all {K:ae}{fd:FuncData}{ps:List Str}(h:∀ us:List Value,us.length=ps.length->bindArgs fd ⟨us,[]⟩=pure (ps.zip us)):Binds K fd ps []:=fun s us _ hl=>by
 rw [lx] at hl ⊢
 exact .of_eq (h us hl)
def mG (CX:CXT) (X:Cx) (E:XK):Prop:=∀ (pins:List (Addr × Obj)) (σ:St) (H:Hp) (s:Shared) (e:Value) (s':Shared),Inv X pins σ H s->CX X.stack H s E e s'->X.xe e s'
section
variable {X:Cx}{CX:CXT}{k:Nat}{f C:Addr}{fd:FuncData}{ps:List Str}{sp:Sp}{dvs:List V}{ds:List Value}{E:XK}{x m:Str}{p pos apos:Pos}{e o:Expr}{es:List Expr}{ta:TE}{t:TA}
theorem aEm {pins:List (Addr × Obj)}{σ:St}{H:Hp}{s:Shared}{Q:VK}{us:List Value}{vs:List V}(F:FnOk X.prog X.w X.K X.mg X.base CX k f fd ps sp)(hr:Room k X.A)(hb:Binds X.K fd ps ds)(hd:Vals dvs ds)(hx:mG CX X E)
  (I:Inv X pins σ H s) (r:Vals vs us) (h:sp (vs++dvs) H Q E):wpAny (model X.prog X.w) X.A (call (.ref f) us) (EP X pins σ Q) X.xe s:=by
 have r2:Vals (vs++dvs) (us++ds):=r.append hd
 have hl:(us++ds).length=ps.length:=by rw [<- r2.length];exact F.len _ _ _ _ h
 refine AJ (kq (F.run X.A X.stack s H ⟨us,[]⟩ (us++ds) (vs++dvs) Q E hr I.env0 (hb s us I.kIn hl) r2 h) fun r s' hq=>?_)
 cases r with
 | error e=>exact hx pins σ H s e s' I hq
 | ok fl=>
  cases fl with
  | ret u=>exact I.after hq
  | next=>exact ki hq
  | brk=>exact ki hq
  | cont=>exact ki hq
theorem aBu (F:FnOk X.prog X.w X.K X.mg X.base CX k f fd ps sp)(hr:Room k X.A)(hg:Gl X x)(hm:X.mg x=some (.ref f))(hk:da X.K (.ref f)=true)(hb:Binds X.K fd ps ds)(hd:Vals dvs ds)(hx:mG CX X E)
  (ha:PA X (e :: es) t) (hdb:(x == ("__debug__" : Str))=false:=by decide) (he:fm (e :: es) X.env=(false,eval e X.env) :: fm es X.env:=by rfl) (hpl:(vg pos (fm es X.env)).any (·.1)=false:=by rfl) :
  PE X (.Call (.Name x p) (e :: es) [] pos) (bG sp dvs E t):=by
 intro pins s σ H Q I h
 refine vk (uS I hg hm ?_ hdb)
 refine PySem.W.callWith_K (h₀:=X.base) I.ok.mod.kin hk (thn (ha pos pins s σ H _ I h) fun us s1 ⟨vs,H1,I1,r,q⟩=>⟨I1.kIn,?_⟩) he hpl
 exact aEm F hr hb hd hx I1 r q
end
section
variable {X:Cx}{CX:CXT}{k:Nat}{f C:Addr}{fd:FuncData}{ps ks:List Str}{sp:Sp}{E:XK}{x m:Str}{p pos apos kpos:Pos}{e o:Expr}{es:List Expr}{kws:List Keyword}{te ta:TE}{t tk:TA}{nm:Option Str}
variable {g:List Value->List Value->List Value}{gV:List V->List V->List V}
end
structure bV (N P:List Str)(sc:Scope):Prop where
 kind:sc.kind = .function
 co:sc.isCoroutine=false
 gen:sc.isGenerator=false
 nd:N.Nodup
 pre:N.take P.length=P
 par:∀ x∈P,sc.names.lookup x=some .local\/sc.names.lookup x=some .cell
 nofree:∀ y∈sc.names,y.2 ≠ .free
theorem xC {kindOf:Str->Option NameKind}{x:Str}:∀ {binds:List (Str × Value)} {m:Str->Option Value},(∀ v,(x,v)∉binds)->bindL kindOf binds m x=m x
 | [],_,_=>rfl
 | (n,v) :: r,m,h=>by
  unfold bindL
  rw [xC fun w hw=>h w (av _ hw)]
  split
  ·have:x≠n:=by rintro rfl;exact h v cg
   simp [this]
  ·rfl
theorem wV {kindOf:Str->Option NameKind}{x:Str}:∀ {binds:List (Str × Value)} {m:Str->Option Value},(∀ v,(x,v)∉binds)->bindC kindOf binds m x=m x
 | [],_,_=>rfl
 | (n,v) :: r,m,h=>by
  unfold bindC
  rw [wV fun w hw=>h w (av _ hw)]
  split
  ·rfl
  ·have:x≠n:=by rintro rfl;exact h v cg
   simp [this]
theorem wU {kindOf:Str->Option NameKind}{x:Str}{v:Value}:∀ {P:List Str} {vs:List Value} {i:Nat} {m:Str->Option Value},P.Nodup->P[i]?=some x->vs[i]?=some v->kindOf x=some .local ->
  bindL kindOf (P.zip vs) m x=some v
 | [],_,_,_,_,h,_,_=>by simp at h
 | _ :: _,[],_,_,_,_,h,_=>by simp at h
 | p :: P,w :: vs,0,m,nd,h1,h2,hk=>by
  simp at h1 h2;subst h1;subst h2
  show bindL kindOf ((p,w) :: P.zip vs) m p=_
  unfold bindL
  rw [xC fun v hv=>(gh.mp nd).1 (yh hv).1,if_pos hk]
  simp
 | p :: P,w :: vs,i+1,m,nd,h1,h2,hk=>by
  show bindL kindOf ((p,w) :: P.zip vs) m x=_
  unfold bindL
  exact wU (i:=i) (gh.mp nd).2 (by simpa using h1) (by simpa using h2) hk
theorem wD {kindOf:Str->Option NameKind}{x:Str}{v:Value}:∀ {P:List Str} {vs:List Value} {i:Nat} {m:Str->Option Value},P.Nodup->P[i]?=some x->vs[i]?=some v->kindOf x≠some .local ->
  bindC kindOf (P.zip vs) m x=some v
 | [],_,_,_,_,h,_,_=>by simp at h
 | _ :: _,[],_,_,_,_,h,_=>by simp at h
 | p :: P,w :: vs,0,m,nd,h1,h2,hk=>by
  simp at h1 h2;subst h1;subst h2
  show bindC kindOf ((p,w) :: P.zip vs) m p=_
  unfold bindC
  rw [wV fun v hv=>(gh.mp nd).1 (yh hv).1,if_neg hk]
  simp
 | p :: P,w :: vs,i+1,m,nd,h1,h2,hk=>by
  show bindC kindOf ((p,w) :: P.zip vs) m x=_
  unfold bindC
  exact wD (i:=i) (gh.mp nd).2 (by simpa using h1) (by simpa using h2) hk
def bW (N:List Str) (vs:List V):St:=vs.map some++dj (N.length - vs.length) none
def zZ (CX:CXT) (P:Program) (w:World) (K:ae) (mg:Str->Option Value) (base:Heap) (N:List Str) (qual:Str) (scope:Scope) (f:Addr) (cd:Value) (A:Around) (outer:List Env) (s:Shared) (H:Hp) (E:XK):Cx where
 prog:=P
 w:=w
 K:=K
 mg:=mg
 base:=base
 A:=A.deeper (Aw qual scope s.heap.objs.size f cd)
 N:=N
 s₀:=s
 H₀:=H
 env:=Aw qual scope s.heap.objs.size f cd
 outer:=outer
 stack:=Aw qual scope s.heap.objs.size f cd :: outer
 ex:=[]
 calm:=true
 fn:=fun _=>true
 pn:=[]
 xe:=fun e s'=>wpAny (model P w) (A.deeper (Aw qual scope s.heap.objs.size f cd)) (leaving (Aw qual scope s.heap.objs.size f cd) e) (fun _ s''=>CX outer H s E e s'') (fun e' s''=>CX outer H s E e' s'') s'
theorem zA {sc:Scope}{n:Nat}{x:Str}(h:sc.names.lookup x=some .cell):∃ c,(jx n sc.names []).lookup x=some c:=by
 have q:=qx sc.names n [] (.inl h)
 exact gc.mp q
theorem aCz {CX:CXT}{P:Program}{w:World}{K:ae}{mg:Str->Option Value}{base:Heap}{N ps:List Str}{qual:Str}{scope:Scope}{f:Addr}{cd:Value}{A:Around}{outer:List Env}{s s1:Shared}{H:Hp}{E:XK}{us:List Value}{vs:List V}
  (S:bV N ps scope) (hd:A.handled=none) (e0:aHP P w K mg base A outer s H) (hl:vs.length=ps.length) (r:Vals vs us)
  (x:InCallC s s.heap.objs.size (bindL (Aw qual scope s.heap.objs.size f cd).kindOf (ps.zip us) fun _=>none) (jx (s.heap.objs.size+1) scope.names []) (bindC (Aw qual scope s.heap.objs.size f cd).kindOf (ps.zip us) fun _=>none) s1) :
  Inv (zZ CX P w K mg base N qual scope f cd A outer s H E) [] (bW N vs) H s1:=by
 have hpl:ps.length<=N.length:=by have:=congrArg Ba S.pre;rw [e8] at this;omega
 obtain ⟨h1,tk,rfl,hk⟩:=x.done
 have noA:∀ b:Addr,b∉(zZ CX P w K mg base N qual scope f cd A outer s H E).ex:=fun b z=>absurd (show b∈([]:List Addr) from z) (by simp)
 refine ⟨⟨e0.mod,S.kind,rfl,rfl,ay _,fun y z c h1 h2=>?_,fun y hy=>?_,fun y c _ h=>?_,fun _=>hd,Around.frames_deeper e0.frames, .inr ⟨rfl,rfl⟩,fun b z=>absurd z (noA b),e0.bs,e0.bsz,fun b _ _=>noA b,fun b z=>absurd z (noA b),e0.funs,e0.frf⟩,
  rfl,e0.bare,Un.kept hk,⟨_,x.toInCall.ns,fun i y v h1 h2 h3=>?_⟩,fun y c h=>⟨_,x.cell y c h⟩,e0.hok.fresh (ay _),fun y c h=>?_,fun p hp=>absurd (show p∈([]:List (Addr × Obj)) from hp) (by simp),e0.hok.kept hk,?_⟩
 ·exact name_of_addr x.apart (gk h1) (gk h2)
 ·have hy:scope.names.lookup y=some .cell\/scope.names.lookup y=some .free:=hy
  rcases hy with hy | hy
  ·exact zA hy
  ·exact absurd rfl (S.nofree _ (gk hy))
 ·exact mi (x.above y c (gk h))
 ·have hi:i<vs.length:=by
   unfold bW at h2
   by_cases hi:i<vs.length
   ·exact hi
   ·rw [dw (by simpa using hi)] at h2
    rw [mn] at h2
    split at h2 <;> cases h2
  have ha:vs[i]?=some v:=by
   unfold bW at h2
   rw [dk (by simpa using hi),az] at h2
   cases e:vs[i]? with
   | none=>rw [e] at h2;cases h2
   | some a=>rw [e] at h2;cases h2;rfl
  obtain ⟨u,hu,rv⟩:=r.get ha
  have hp:ps[i]?=some y:=by
   rw [<- S.pre,ly (by omega)];exact h1
  have ndP:ps.Nodup:=by rw [<- S.pre];exact S.nd.sublist (List.take_sublist _ _)
  refine ⟨u,rv,?_⟩
  rcases S.par y (aw hp) with k | k
  ·exact .inl ⟨k,wU ndP hp hu k⟩
  ·obtain ⟨c,e⟩:=zA (n:=s.heap.objs.size+1) k
   refine .inr ⟨.inl k,c,e,?_⟩
   have q:=x.cell y c e
   rw [wD ndP hp hu (by show scope.names.lookup y≠_;rw [k];decide)] at q
   exact q
 ·exact e0.hok.fresh (mi (x.above y c (gk h)))
 ·unfold bW
  show _=N.length
  rw [au,af,kr]
  omega
theorem aGc {CX:CXT}{P:Program}{w:World}{K:ae}{mg:Str->Option Value}{base:Heap}{k:Nat}{f:Addr}{name qual:Str}{params:Arguments}{body:List Stmt}{scope:Scope}{dV kV doc pm cdv ct oc:Value}{an od:Option Addr}
  {osl:Array (Option Value)} {N ps:List Str} {sp:Sp} (lk:K.lookup f=some ⟨oc,od, .func (du name qual params body scope dV kV doc pm an cdv ct),osl⟩) (hcd:di K cdv qual=true) (S:bV N ps scope)
  (len:∀ vs H Q E,sp vs H Q E->vs.length=ps.length)
  (hbody:∀ (A:Around) (outer:List Env) (s:Shared) (H:Hp) (vs:List V) (Q:VK) (E:XK),Room k (A.deeper (Aw qual scope s.heap.objs.size f cdv))->sp vs H Q E ->
   ∃ t,PSs (zZ CX P w K mg base N qual scope f cdv A outer s H E) body t/\t { nx:=fun _ H'=>Q .non H',rt:=Q } (bW N vs) H) :
  FnOk P w K mg base CX (k+1) f (du name qual params body scope dV kV doc pm an cdv ct) ps sp:=by
 refine ⟨len,fun A outer s H args us vs Q E hr e0 hb r hsp=>?_⟩
 have hl:=len _ _ _ _ hsp
 have KX:K.In s.heap:=e0.mod.kin.keeps fun b o e=>(e0.bs b o e).1
 have lim:s.heap.NoLimit:=e0.mod.nolimit.keeps fun b o e=>(e0.bs b o e).1
 have hkind:∀ y∈ps.zip us,scope.names.lookup y.1=some .local\/(scope.names.lookup y.1=some .cell/\((jx (s.heap.objs.size+1) scope.names []).lookup y.1).isSome=true):=fun ⟨n,v⟩ hy=>by
  rcases S.par n (yh hy).1 with q | q
  ·exact .inl q
  ·exact .inr ⟨q,qx _ _ _ (.inl q)⟩
 refine codeAny_call_function hr.depth (KX _ _ lk) rfl S.co S.gen rfl (PySem.W.codeRec_of KX hcd) (hb _ _ _ _ ?_)
 refine wpAny_newFunctionEnv_cells S.kind hkind fun env he s1 x=>?_
 subst he
 refine ⟨lim.keeps x.toInCall.keep,codeAny_func ?_⟩
 obtain ⟨t,ht,hq⟩:=hbody A outer s H vs Q E (hr.deeper _) hsp
 have I:Inv (zZ CX P w K mg base N qual scope f cdv A outer s H E) [] (bW N vs) H s1:=aCz S hr.hd e0 hl r x
 refine iq (ht [] s1 (bW N vs) H _ I hq) (fun fl s' hs=>?_) fun e s' hs=>hs
 have fin:∀ {σ':St} {H':Hp} {v:V} {u:Value},Inv (zZ CX P w K mg base N qual scope f cdv A outer s H E) [] σ' H' s'->RelV v u->Q v H'->CE outer P w H s Q u s':=
  fun {σ' H' v u} J rv q=>⟨v,H',J.os,J.bare,J.base,J.hok,rv,q⟩
 cases fl with
 | ret u=>
  obtain ⟨v,σ',H',J,rv,q⟩:=hs
  exact fin J rv q
 | next=>
  obtain ⟨σ',H',J,q⟩:=hs
  exact fin (v:=V.non) (u:=Value.none) J rfl q
 | brk=>
  obtain ⟨_,_,_,q⟩:=hs
  exact ki q
 | cont=>
  obtain ⟨_,_,_,q⟩:=hs
  exact ki q
section
variable {X:Cx}{x:Str}{p pos:Pos}{e:Expr}{es:List Expr}{t:TA}{id T:String}{r:List V->Hp->VK->Prop}
def tCB (r:List V->Hp->VK->Prop) (t:TA):TE:=fun σ H Q=>t σ H fun vs H1=>r vs H1 Q
theorem aN (hc:CallR X (.builtin id) r)(hg:Gl X x)(hm:X.mg x=none)(hv:fi x=some (.builtin id))(ha:PA X (e :: es) t)(hn:x≠"__name__":=by decide)(hdb:(x == ("__debug__" : Str))=false:=by decide)
  (he:fm (e :: es) X.env=(false,eval e X.env) :: fm es X.env:=by rfl) (hpl:(vg pos (fm es X.env)).any (·.1)=false:=by rfl):PE X (.Call (.Name x p) (e :: es) [] pos) (tCB r t):=by
 intro pins s σ H Q I h
 refine vk (sV I hg hm hv ?_ hn hdb)
 exact PyProof.Rows.callWith_builtin1 (thn (ha pos pins s σ H _ I h) fun us s1 ⟨vs,H1,I1,r1,q1⟩=>hc pins s1 σ H1 vs us Q I1 r1 q1) he hpl
theorem cD (hc:CallR X (.type T) r)(hg:Gl X x)(hm:X.mg x=none)(hv:fi x=some (.type T))(ha:PA X (e :: es) t)(hn:x≠"__name__":=by decide)(hdb:(x == ("__debug__" : Str))=false:=by decide)
  (he:fm (e :: es) X.env=(false,eval e X.env) :: fm es X.env:=by rfl) (hpl:(vg pos (fm es X.env)).any (·.1)=false:=by rfl):PE X (.Call (.Name x p) (e :: es) [] pos) (tCB r t):=by
 intro pins s σ H Q I h
 refine vk (sV I hg hm hv ?_ hn hdb)
 exact j8 (thn (ha pos pins s σ H _ I h) fun us s1 ⟨vs,H1,I1,r1,q1⟩=>hc pins s1 σ H1 vs us Q I1 r1 q1) he hpl
end
end L2
namespace HT
open PySem PyProof.Rows
section
open PySem.SeqAt
open PySem.AutoSeq1 (wpAny_loadPart')
open PySem.MeetsSeq PySem.MeetsSeq2 PySem.MeetsSeq3
end
section
variable {prog:Program}{w:World}{A:Around}{E:Value->Shared->Prop}{s:Shared}
theorem cat_tup {t b:Addr}{vs ws:List Value}{Q:Value->Shared->Prop}(ht:IsTup s.heap t vs.toArray)(hb:IsTup s.heap b ws.toArray)(hv:vs≠[])
  (h1:ws=[]->Q (.ref t) s) (h2:ws≠[]->Q (.ref s.heap.objs.size) { s with heap:=s.heap.push { cls := .type "tuple",data := .seq (vs++ws).toArray } })
  (hsz:vs.length+ws.length<=ba):wpAny (model prog w) A (lh .Add (.ref t) (.ref b)) Q E s:=by
 obtain ⟨⟨cls,dd,data,sl⟩,ho,hc,n,hd⟩:=id ht
 obtain ⟨⟨cls2,dd2,data2,sl2⟩,ho2,hc2,n2,hd2⟩:=id hb
 simp only at hc hd hc2 hd2
 subst hc hd hc2 hd2
 have e:vs.toArray++ws.toArray=(vs++ws).toArray:=by simp
 by_cases hw:ws=[]
 ·exact AS ⟨_,ho,rfl⟩ ⟨_,ho2,rfl⟩ xt Ax qy qm (qg _ _)
   (tuple_addW1 t b vs.toArray ws.toArray n n2 dd dd2 sl sl2 (by simpa using hv) (by simp [hw])) ⟨ho,ho2,h1 hw⟩
 ·refine AS ⟨_,ho,rfl⟩ ⟨_,ho2,rfl⟩ xt Ax qy qm (qg _ _)
   (tuple_addW2 t b vs.toArray ws.toArray n n2 dd dd2 sl sl2 (by simpa using hv) (by simpa using hw) (by rw [aq,aq];exact hsz)) ⟨ho,ho2,?_⟩
  rw [e]
  exact h2 hw
def sIx (n d:Nat):Option Int->Nat
 | none=>d
 | some v=>if v<0 then (v+(n:Int)).toNat else min v.toNat n
theorem aHL (n d:Nat)(hd:d<=n)(o:Option Int):sIx n d o<=n:=by
 cases o with
 | none=>exact hd
 | some v=>
  show (if v<0 then (v+(n:Int)).toNat else min v.toNat n)<=n
  by_cases hv:v<0
  ·rw [if_pos hv];omega
  ·rw [if_neg hv];exact Nat.min_le_right _ _
theorem aCH (v:Int)(n d:Nat):(if v<0 then max (v+(n:Int)) 0 else min v (n:Int))=((sIx n d (some v):Nat):Int):=by
 show (if v<0 then max (v+(n:Int)) 0 else min v (n:Int))=(((if v<0 then (v+(n:Int)).toNat else min v.toNat n):Nat):Int)
 by_cases hv:v<0
 ·simp only [if_pos hv];omega
 ·simp only [if_neg hv];omega
theorem aAD (lo hi:Option Int)(n:Nat):pg lo hi 1 (n:Int)=(((sIx n 0 lo:Nat):Int),((sIx n n hi:Nat):Int)):=by
 have h1:¬ ((1:Int)<0):=by omega
 unfold pg
 simp only [h1,if_false]
 refine Ay ?_ ?_
 ·cases lo with
  | none=>rfl
  | some v=>exact aCH v n 0
 ·cases hi with
  | none=>rfl
  | some v=>exact aCH v n n
theorem aAl (i j:Nat):la (i:Int) (j:Int) 1=j - i:=by
 unfold la
 have h1:(1:Int) > 0:=by omega
 simp only [h1,if_true,yi]
 split <;> omega
theorem sP {v:Value}{o:Option Int}{Q:Option Int->Shared->Prop}(p:IsPart v o)(h:Q o s):wpAny (model prog w) A (Builtin.Slice.slicePartIndex v) Q E s:=by
 cases p with
 | none=>exact slicePart_none h
 | int i t=>exact slicePart_int h
theorem sliceApplied_gen {sl:Addr}{vl vu:Value}{lo hi:Option Int}{n:Nat}{Q:Int × Int × Nat->Shared->Prop}(hs:s.heap.IsSliceOf sl vl vu .none)(pl:IsPart vl lo)(pu:IsPart vu hi)
  (h:Q (((sIx n 0 lo:Nat):Int),1,sIx n n hi - sIx n 0 lo) s):wpAny (model prog w) A (vd (.ref sl) (pure (n:Int))) Q E s:=by
 obtain ⟨os,hos,hcs,hds⟩:=id hs
 unfold vd Builtin.Slice.sliceFields
 refine aa (aa (jt hos hds (x:=vl) rfl (aa (jt hos hds (x:=vu) rfl (aa (jt hos hds (x := .none) rfl (ak ?_)))))))
 refine aa (slicePart_none ?_)
 show wpAny _ _ (if ((1:Int) == 0)=true then _ else _) _ _ s
 rw [if_neg (by decide)]
 refine aa (sP pl (aa (sP pu (aa (ak ?_)))))
 show wpAny _ _ (match pg lo hi 1 (n:Int) with | (lo,hi)=>pure (lo,(1:Int),la lo hi 1)) _ _ s
 rw [aAD lo hi n]
 show wpAny _ _ (pure (((sIx n 0 lo:Nat):Int),(1:Int),la ((sIx n 0 lo:Nat):Int) ((sIx n n hi:Nat):Int) 1)) _ _ s
 rw [aAl]
 exact ak h
theorem aCX (xs:Array Value)(i k:Nat):((ar k).filterMap fun (m:Nat)=>xs[((i:Int)+(m:Int)*1).toNat]?).toArray=((xs.toList.drop i).take k).toArray:=by
 have e:(fun (m:Nat)=>xs[((i:Int)+(m:Int)*1).toNat]?)=fun m=>xs[i+m]?:=by
  funext m
  have:((i:Int)+(m:Int)*1).toNat=i+m:=by omega
  rw [this]
 rw [e]
 have:=pick_run xs i k
 rw [List.filterMap_map] at this
 have e2:((fun x=>xs[x]?)∘fun x=>i+x)=fun m=>xs[i+m]?:=rfl
 rw [e2] at this
 rw [this]
theorem getItem_tuple_cut {t sl:Addr}{items:Array Value}{vl vu:Value}{lo hi:Option Int}{Q:Value->Shared->Prop}(ht:IsTup s.heap t items)(hs:s.heap.IsSliceOf sl vl vu .none)(pl:IsPart vl lo)(pu:IsPart vu hi)
  (hw:¬ (sIx items.size 0 lo=0/\sIx items.size items.size hi=items.size))
  (h:Q (.ref s.heap.objs.size) { s with heap:=s.heap.push { cls := .type "tuple",data := .seq ((items.toList.drop (sIx items.size 0 lo)).take (sIx items.size items.size hi - sIx items.size 0 lo)).toArray } })
  (hsz:items.size<=ba):wpAny (model prog w) A (xf (.ref t) (.ref sl)) Q E s:=by
 have htake:sizeOk (.seq ((items.toList.drop (sIx items.size 0 lo)).take (sIx items.size items.size hi - sIx items.size 0 lo)).toArray):=by
  show ((items.toList.drop (sIx items.size 0 lo)).take (sIx items.size items.size hi - sIx items.size 0 lo)).toArray.size<=ba
  rw [aq,e8,il,fc]
  omega
 have hj:sIx items.size items.size hi<=items.size:=aHL _ _ (ay _) hi
 obtain ⟨os,hos,hcs,hds⟩:=id hs
 have hTs:s.TypeIs (.ref sl) "slice":=⟨os,hos,hcs⟩
 unfold xf
 try with_reducible refine fj ?_
 first | refine aa (ak ?_) | skip
 refine aa (wpAny_sequenceKey ht.typeIs (by decide) ?_)
 refine aa (ig (name:=n5 "__getitem__") ht.typeIs gu
  (fw gu ht.typeIs Ac ?_ (args_tuple_getitem _ _)))
 show wpAny _ _ (o8 (.ref t) >>= _) _ _ s
 refine aa (tupleItemsOf_ ht ?_)
 refine aa (sg hTs ?_)
 rw [if_pos (by decide)]
 refine aa (sliceApplied_gen hs pl pu ?_)
 have hno:¬ ((((sIx items.size 0 lo:Nat):Int) == 0 && (1:Int) == 1 && (sIx items.size items.size hi - sIx items.size 0 lo) == items.size)=true):=by
  intro q
  rw [ff,ff] at q
  have q1:((sIx items.size 0 lo:Nat):Int)=0:=wj q.1.1
  have q2:sIx items.size items.size hi - sIx items.size 0 lo=items.size:=wj q.2
  exact hw ⟨by omega,by omega⟩
 show wpAny _ _ (if (((sIx items.size 0 lo:Nat):Int) == 0 && (1:Int) == 1 && (sIx items.size items.size hi - sIx items.size 0 lo) == items.size)=true then _ else _) _ _ s
 rw [if_neg hno,aCX]
 first
  | exact aa (m:=me _) (gf (ak ⟨_,rfl,ak h⟩) htake)
  | exact aa (m:=me _) (gf (aa (ak (ak ⟨_,rfl,ak h⟩))) htake)
  | exact aa (aa (m:=me _) (gf (ak (ak ⟨_,rfl,ak h⟩)) htake))
  | exact aa (aa (m:=me _) (gf (ak ⟨_,rfl,ak h⟩) htake))
end
end HT
namespace L2
open PySem PySem.Spec PyProof.Rows
abbrev TO:=St->Hp->(Option Int->Hp->Prop)->Prop
def PO (X:Cx) (e:Option Expr) (t:TO):Prop:=
 ∀ (pins:List (Addr × Obj)) (s:Shared) (σ:St) (H:Hp) (Q:Option Int->Hp->Prop),Inv X pins σ H s->t σ H Q ->
  wpAny (model X.prog X.w) X.A (evalPart e X.env) (fun u s'=>∃ o H',Inv X pins σ H' s'/\IsPart u o/\Q o H') X.xe s
def dF:TO:=fun _ H Q=>Q none H
def jC (t:TE):TO:=fun σ H Q=>t σ H fun x H1=>∃ i,x = .int i/\Q (some i) H1
theorem gA {ns:List Int}:∀ {us:List Value},Vals (ns.map V.int) us->IntsAre us ns:=by
 induction ns with
 | nil=>intro us r;rw [sk] at r;cases r;exact .nil
 | cons n ns ih=>
  intro us r
  rw [df] at r
  cases r with
  | cons r1 r2=>
   obtain ⟨t,e⟩:=r1
   subst e
   exact .cons n t (ih r2)
section
variable {X:Cx}{e:Expr}{te:TE}{lo hi:Option Expr}{tl th:TO}{pos p2:Pos}
theorem gT:PO X none dF:=by
 intro pins s σ H Q I h
 rw [evalPart_none]
 exact ak ⟨none,H,I, .none,h⟩
theorem gU (h:PE X e te):PO X (some e) (jC te):=by
 intro pins s σ H Q I hw
 rw [evalPart_some]
 refine thn (h pins s σ H _ I hw) fun u s1 ⟨x,H1,I1,r1,q1⟩=>?_
 obtain ⟨i,rfl,q⟩:=q1
 obtain ⟨t,rfl⟩:=r1
 exact ⟨some i,H1,I1, .int i t,q⟩
def SlR (X:Cx) (r:V->Option Int->Option Int->Hp->VK->Prop):Prop:=
 ∀ (pins:List (Addr × Obj)) (s:Shared) (σ:St) (H:Hp) (x:V) (v vl vu:Value) (lo hi:Option Int) (sl:Addr) (Q:VK),Inv X pins σ H s->RelV x v->s.heap.IsSliceOf sl vl vu .none->IsPart vl lo->IsPart vu hi->r x lo hi H Q ->
  ∃ T id,typeLookup (.type T) "__getitem__" = pure (some (.builtin id))/\s.TypeIs v T/\wpAny (model X.prog X.w) X.A (xf v (.ref sl)) (EP X pins σ Q) X.xe s
theorem SlR.or {r r':V->Option Int->Option Int->Hp->VK->Prop}(h:SlR X r)(h':SlR X r'):SlR X (fun x lo hi H Q=>r x lo hi H Q\/r' x lo hi H Q):=by
 intro pins s σ H x v vl vu lo hi sl Q I rx hs pl pu q
 rcases q with q | q
 ·exact h pins s σ H x v vl vu lo hi sl Q I rx hs pl pu q
 ·exact h' pins s σ H x v vl vu lo hi sl Q I rx hs pl pu q
def tSl (r:V->Option Int->Option Int->Hp->VK->Prop) (te:TE) (tl th:TO):TE:=fun σ H Q=>te σ H fun x H1=>tl σ H1 fun l H2=>th σ H2 fun u H3=>r x l u H3 Q
theorem fD {r:V->Option Int->Option Int->Hp->VK->Prop}(hr:SlR X r)(he:PE X e te)(hl:PO X lo tl)(hu:PO X hi th):PE X (.Subscript e (.Slice lo hi none p2) pos) (tSl r te tl th):=by
 intro pins s σ H Q I h
 refine Subscript_ (thn (he pins s σ H _ I h) fun v s1 ⟨x,H1,I1,r1,q1⟩=>?_)
 refine wpAny_Slice (thn (hl pins s1 σ H1 _ I1 q1) fun vl s2 ⟨l,H2,I2,pl,q2⟩=>thn (hu pins s2 σ H2 _ I2 q2) fun vu s3 ⟨u,H3,I3,pu,q3⟩=>?_)
 rw [evalPart_none]
 refine ak ?_
 have I4:Inv X pins σ H3 { s3 with heap:=s3.heap.push { cls := .type "slice",data := .fields #[vl,vu, .none] } }:=I3.kept (t':=s3.toks) fun b ob q=>ao _ q
 obtain ⟨T,id,hT,ht,hg⟩:=hr pins { s3 with heap:=s3.heap.push { cls := .type "slice",data := .fields #[vl,vu, .none] } } σ H3 x v vl vu l u s3.heap.objs.size Q I4 r1 (Heap.IsSliceOf.new ..) pl pu q3
 show wpAny (model X.prog X.w) X.A (Az e (.Slice lo hi none p2) v (.ref s3.heap.objs.size)) (EP X pins σ Q) X.xe { s3 with heap:=s3.heap.push { cls := .type "slice",data := .fields #[vl,vu, .none] } }
 exact tail_any (ops:=[.ref s3.heap.objs.size,v]) ht hT hg (by with_unfolding_all rfl)
def sD (xs:List V) (lo hi:Option Int):List V:=(xs.drop (HT.sIx xs.length 0 lo)).take (HT.sIx xs.length xs.length hi - HT.sIx xs.length 0 lo)
theorem qW (xs:List V)(lo hi:Option Int):(sD xs lo hi).length<=xs.length:=by
 unfold sD
 rw [e8,il]
 omega
def aJF (K:ae):V->Option Int->Option Int->Hp->VK->Prop:=fun x lo hi H Q=>∃ a xs,x = .ref a/\SqT K H a xs /\
 ¬ (HT.sIx xs.length 0 lo=0/\HT.sIx xs.length xs.length hi=xs.length)/\∀ p,H p=none->Q (.ref p) (upd H p (.tup (sD xs lo hi)))
theorem aHa:SlR X (aJF X.K):=by
 intro pins s σ H x v vl vu lo hi sl Q I rx hs pl pu h
 obtain ⟨a,xs,rfl,hx,hw,q⟩:=h
 cases rx
 obtain ⟨its,r,ht,hz⟩:=I.tuple hx
 have hlen:its.toArray.size=xs.length:=by rw [aq];exact r.length.symm
 refine ⟨"tuple",_,gu.lookup,ht.typeIs,?_⟩
 refine HT.getItem_tuple_cut ht hs pl pu (by rw [hlen];exact hw) ?_ (by rw [hlen];exact hz)
 rw [hlen]
 refine ⟨.ref s.heap.objs.size,_,I.laid (t':=s.toks) (o := .tup (sD xs lo hi)) (fun b ob q=>ao _ q) (ay _) ?_,rfl,q _ (I.hok.fresh (ay _))⟩
 exact ⟨et (qW xs lo hi) hz,_,(r.drop (HT.sIx xs.length 0 lo)).take (HT.sIx xs.length xs.length hi - HT.sIx xs.length 0 lo),TupN.new _ _⟩
def aIn (K:ae):R2:=fun x y H Q=>∃ a b xs ys,x = .ref a/\y = .ref b/\SqT K H a xs/\SqT K H b ys/\xs≠[]/\xs.length+ys.length<=ba /\
 (ys=[]->Q (.ref a) H)/\(ys≠[]->∀ p,H p=none->Q (.ref p) (upd H p (.tup (xs++ys))))
theorem Vals.nil_iff {xs:List V}{us:List Value}(r:Vals xs us):us=[]↔xs=[]:=by
 cases r with
 | nil=>simp
 | cons _ _=>simp
theorem aFL:OpR X (lh .Add) (aIn X.K):=by
 intro pins s σ H x y v u Q I rx ry h
 obtain ⟨a,b,xs,ys,rfl,rfl,ha,hb,hx,hz,q1,q2⟩:=h
 cases rx
 cases ry
 obtain ⟨its,r1,p1,_⟩:=I.tuple ha
 obtain ⟨its2,r2,p2,_⟩:=I.tuple hb
 refine HT.cat_tup p1 p2 (fun z=>hx (r1.nil_iff.mp z)) (fun z=>⟨.ref a,H,I,rfl,q1 (r2.nil_iff.mp z)⟩) (fun z=>?_) (by rw [<- r1.length,<- r2.length];exact hz)
 refine ⟨.ref s.heap.objs.size,_,I.laid (t':=s.toks) (o := .tup (xs++ys)) (fun b ob q=>ao _ q) (ay _) ?_,rfl,q2 (fun w=>z (r2.nil_iff.mpr w)) _ (I.hok.fresh (ay _))⟩
 exact ⟨by rw [au];exact hz,_,r1.append r2,TupN.new _ _⟩
end
def ixN (n:Nat) (i:Int):Option Nat:=if 0<=i then (if i<n then some i.toNat else none) else if -(n:Int)<=i then some (i+n).toNat else none
def atI {α:Type} (xs:List α) (i:Int):Option α:=(ixN xs.length i).bind fun j=>xs[j]?
theorem aBX {n:Nat}{i:Int}{j:Nat}(h:ixN n i=some j):seqIndex? i n=some j/\j<n/\-(n:Int)<=i/\i<n:=by
 unfold ixN at h
 by_cases h0:0<=i
 ·rw [if_pos h0] at h
  by_cases h1:i<n
  ·rw [if_pos h1] at h
   have e:i.toNat=j:=cu h
   exact ⟨by rw [Bb h0 h1,e],by omega,by omega,h1⟩
  ·rw [if_neg h1] at h;cases h
 ·rw [if_neg h0] at h
  by_cases h1:-(n:Int)<=i
  ·rw [if_pos h1] at h
   have e:(i+n).toNat=j:=cu h
   exact ⟨by rw [AU (by omega) h1,e],by omega,h1,by omega⟩
  ·rw [if_neg h1] at h;cases h
theorem aBd {α:Type}{xs:List α}{i:Int}{v:α}(h:atI xs i=some v):∃ j,seqIndex? i xs.length=some j/\xs[j]?=some v/\j<xs.length/\-(xs.length:Int)<=i/\i<xs.length:=by
 unfold atI at h
 cases e:ixN xs.length i with
 | none=>rw [e] at h;cases h
 | some j=>
  rw [e] at h
  obtain ⟨h1,h2,h3,h4⟩:=aBX e
  exact ⟨j,h1,h,h2,h3,h4⟩
theorem aBW {α:Type}{xs:List α}{j:Nat}{v:α}(h:xs[j]?=some v):atI xs (j:Int)=some v:=by
 have hj:j<xs.length:=(ai.mp h).1
 have e:ixN xs.length (j:Int)=some j:=by
  unfold ixN
  rw [if_pos (by omega),if_pos (by omega)];simp
 unfold atI;rw [e];exact h
def aEP (b:Expr):Prop:=∀ o i,Ad b false o i=operate [o,i] (xf o i)
def IxR (X:Cx) (r:R2):Prop:=
 ∀ (value slice:Expr) (pins:List (Addr × Obj)) (s:Shared) (σ:St) (H:Hp) (x y:V) (v u:Value) (Q:VK),Inv X pins σ H s->RelV x v->RelV y u->r x y H Q ->
  Ad slice false v u=operate [v,u] (xf v u)->wpAny (model X.prog X.w) X.A (Az value slice v u) (EP X pins σ Q) X.xe s
def MtR (X:Cx) (id:String) (r:V->List V->Hp->VK->Prop):Prop:=
 ∀ (pins:List (Addr × Obj)) (s:Shared) (σ:St) (H:Hp) (x:V) (xs:List V) (v:Value) (us:List Value) (Q:VK),Inv X pins σ H s->RelV x v->Vals xs us->r x xs H Q ->
  wpAny (model X.prog X.w) X.A (call (.builtin id) (v :: us)) (EP X pins σ Q) X.xe s
section
variable {X:Cx}{a b:Expr}{ta tb:TE}{pos:Pos}
theorem IxR.or {r r':R2}(h:IxR X r)(h':IxR X r'):IxR X (fun x y H Q=>r x y H Q\/r' x y H Q):=by
 intro value slice pins s σ H x y v u Q I rx ry q hs
 rcases q with q | q
 ·exact h value slice pins s σ H x y v u Q I rx ry q hs
 ·exact h' value slice pins s σ H x y v u Q I rx ry q hs
theorem bD {r:R2}(hr:IxR X r)(ha:PE X a ta)(hb:PE X b tb)(hs:aEP b):PE X (.Subscript a b pos) (tOp r ta tb):=by
 intro pins s σ H Q I h
 exact Subscript_ (aIA ha hb I h fun v u s2 x y H2 I2 rx ry q=>hr a b pins s2 σ H2 x y v u Q I2 rx ry q (hs _ _))
def aHO (K:ae):R2:=fun x y H Q=>∃ p xs i v,x = .ref p/\y = .int i/\SqL K H p xs/\atI xs i=some v/\Q v H
def aHY (K:ae):R2:=fun x y H Q=>∃ p xs i v,x = .ref p/\y = .int i/\SqT K H p xs/\atI xs i=some v/\Q v H
theorem aFN:IxR X (aHO X.K):=by
 intro value slice pins s σ H x y v u Q I rx ry h hs
 obtain ⟨p,xs,i,z,rfl,rfl,hq,he,q⟩:=h
 cases rx
 obtain ⟨t,rfl⟩:=ry
 obtain ⟨its,r,pl,hz⟩:=I.list hq
 obtain ⟨j,h1,h2,h3,h4,h5⟩:=aBd he
 obtain ⟨w,ew,rw'⟩:=r.get h2
 have hl:=r.length
 have hn:=vN
 have fin:EP X pins σ Q w s:=⟨z,H,I,rw',q⟩
 by_cases h0:0<=i
 ·have hj:i.toNat=j:=by
   rw [Bb h0 h5] at h1
   exact cu h1
  exact item_listR pl.isList h0 (by omega) (by rw [hj];simpa using ew) fin hs
 ·have hj:(i+(its.toArray.size:Int)).toNat=j:=by
   rw [AU (by omega) h4] at h1
   rw [aq,<- hl]
   exact cu h1
  exact yd (x:=w) pl.isList.typeIs slot_list_getitem.lookup
   (wpAny_getItem_list_neg (Q:=fun r s'=>r=w/\EP X pins σ Q r s') pl.isList (by omega) (by rw [aq] <;> omega) (by omega) (by rw [hj];simpa using ew) ⟨rfl,fin⟩) hs
theorem aFZ:IxR X (aHY X.K):=by
 intro value slice pins s σ H x y v u Q I rx ry h hs
 obtain ⟨p,xs,i,z,rfl,rfl,hq,he,q⟩:=h
 cases rx
 obtain ⟨t,rfl⟩:=ry
 obtain ⟨its,r,pl,hz⟩:=I.tuple hq
 obtain ⟨j,h1,h2,h3,h4,h5⟩:=aBd he
 obtain ⟨w,ew,rw'⟩:=r.get h2
 have hl:=r.length
 have hn:=vN
 have fin:EP X pins σ Q w s:=⟨z,H,I,rw',q⟩
 exact yd (x:=w) pl.typeIs slot_tuple_getitem.lookup
  (getItem_tuple (j:=j) (Q:=fun r s'=>r=w/\EP X pins σ Q r s') pl (by omega) (by omega) (by rw [aq,<- hl];exact h1) (by simpa using ew) ⟨rfl,fin⟩) hs
theorem aAE (its:List Value)(n j:Nat)(u:Value):ji (·.setIfInBounds j u) { cls := .type "list",data := .seq its.toArray n }={ cls := .type "list",data := .seq (its.set j u).toArray n }:=by
 simp [ji]
theorem Inv.lst {pins:List (Addr × Obj)}{σ:St}{H:Hp}{s:Shared}{p:Addr}{xs:List V}(I:Inv X pins σ H s)(h:H p=some (.lst xs)) :
  ∃ (its:List Value) (n:Nat),Vals xs its/\s.heap.get? p=some { cls := .type "list",data := .seq its.toArray n }/\xs.length<=ba:=by
 obtain ⟨z,its,n,r,e⟩:=I.hok p _ h
 exact ⟨its,n,r,e,z⟩
theorem Inv.lstUpd {pins:List (Addr × Obj)}{σ:St}{H:Hp}{s:Shared}{p:Addr}{xs ys:List V}{its its':List Value}{n n':Nat}{f:Obj->Obj}(I:Inv X pins σ H s)(h:H p=some (.lst xs))
  (ho:s.heap.get? p=some { cls := .type "list",data := .seq its.toArray n }) (hf:f { cls := .type "list",data := .seq its.toArray n }={ cls := .type "list",data := .seq its'.toArray n' }) (r:Vals ys its') (hz:ys.length<=ba) (t:Nat) :
  Inv X pins σ (upd H p (.lst ys)) { s with heap:=s.heap.update p f,toks:=t }:=by
 have e:(s.heap.update p f).get? p=some { cls := .type "list",data := .seq its'.toArray n' }:=by
  rw [i4 f ho (by rw [hf] <;> rfl),hf]
 refine I.write (x:=p) (e:=p) (by rw [h];trivial) (.inl rfl) (fun b u hb q=>(kc _ _ (jk hb)).trans q) ⟨_,e⟩ ?_
 exact ⟨hz,its',n',r,e⟩
def fV:V->V->V->Hp->(Hp->Prop)->Prop:=fun o i v H Q=>∃ p xs k j,o = .ref p/\i = .int k/\H p=some (.lst xs)/\ixN xs.length k=some j/\Q (upd H p (.lst (xs.set j v)))
theorem iL:aJl X fV:=by
 intro pins s σ H o i v ov iv u Q I ro ri rv h
 obtain ⟨p,xs,k,j,rfl,rfl,hp,hj,q⟩:=h
 cases ro
 obtain ⟨t,rfl⟩:=ri
 obtain ⟨its,n,r,ho,hz⟩:=I.lst hp
 obtain ⟨h1,h2,h3,h4⟩:=aBX hj
 have hl:=r.length
 have hn:=vN
 have I':Inv X pins σ (upd H p (.lst (xs.set j v))) { s with heap:=s.heap.update p (ji (·.setIfInBounds j u)) }:=
  I.lstUpd hp ho (aAE its n j u) (r.set rv j) (by rw [d8];exact hz) s.toks
 by_cases h0:0<=k
 ·have hk:k.toNat=j:=by
   rw [Bb h0 h4] at h1
   exact cu h1
  exact PySem.W.ki_setAt ho h0 (by omega) (by rw [aq,<- hl];exact h4) (by rw [hk];exact ⟨_,I',q⟩)
 ·have hk:(k+(its.toArray.size:Int)).toNat=j:=by
   rw [AU (by omega) h3] at h1
   rw [aq,<- hl]
   exact cu h1
  exact PySem.W.ki_setBack ho (by omega) (by rw [aq,<- hl];exact h3) (by omega) (by rw [hk];exact ⟨_,I',q⟩)
theorem vK (lo hi:Option Int)(n:Nat):(rf lo hi none n).1=((HT.sIx n 0 lo:Nat):Int)/\(rf lo hi none n).2.1=((HT.sIx n n hi:Nat):Int)/\(rf lo hi none n).2.2=1:=by
 refine ⟨?_,?_,rfl⟩
 ·cases lo with
  | none=>simp [rf,HT.sIx]
  | some i=>
   simp only [rf,HT.sIx,Option.getD_none,show (1:Int) > 0 by decide,if_true]
   by_cases h:i<0
   ·simp only [h,if_true] <;> omega
   ·simp only [h,if_false] <;> omega
 ·cases hi with
  | none=>simp [rf,HT.sIx]
  | some i=>
   simp only [rf,HT.sIx,Option.getD_none,show (1:Int) > 0 by decide,if_true]
   by_cases h:i<0
   ·simp only [h,if_true] <;> omega
   ·simp only [h,if_false] <;> omega
theorem tY (its:List Value)(lo hi:Option Int):slicePick its.toArray lo hi none=((its.drop (HT.sIx its.length 0 lo)).take (HT.sIx its.length its.length hi - HT.sIx its.length 0 lo)).toArray:=by
 obtain ⟨h1,h2,h3⟩:=vK lo hi its.toArray.size
 unfold slicePick
 rw [h1,h2,h3]
 simp only [sliceRange_one,pick_run,aq] <;> rfl
def aJo (K:ae):V->Option Int->Option Int->Hp->VK->Prop:=fun x lo hi H Q=>∃ a xs,x = .ref a/\SqL K H a xs/\∀ p,H p=none->Q (.ref p) (upd H p (.lst (sD xs lo hi)))
theorem aFk:SlR X (aJo X.K):=by
 intro pins s σ H x v vl vu lo hi sl Q I rx hs pl pu h
 obtain ⟨a,xs,rfl,hx,q⟩:=h
 cases rx
 obtain ⟨its,r,ht,hz⟩:=I.list hx
 have hlen:=r.length
 refine ⟨"list",_,slot_list_getitem.lookup,ht.isList.typeIs,?_⟩
 refine wpAny_getItem_list_slice ht.isList hs pl pu .none (by simp) ?_ (by rw [aq] <;> omega)
 rw [tY,<- hlen]
 refine ⟨.ref s.heap.objs.size,_,I.laid (t':=s.toks) (o := .lst (sD xs lo hi)) (fun b ob q=>ao _ q) (ay _) ?_,rfl,q _ (I.hok.fresh (ay _))⟩
 exact ⟨et (qW xs lo hi) hz,_,0,(r.drop (HT.sIx xs.length 0 lo)).take (HT.sIx xs.length xs.length hi - HT.sIx xs.length 0 lo),bp _ rfl⟩
def mS:V->Bool
 | .non=>true
 | .bl _=>true
 | .int _=>true
 | .str _=>true
 | _=>false
def eqV:V->V->Bool
 | .non, .non=>true
 | .bl a, .bl b=>a == b
 | .bl a, .int b=>(if a then 1 else 0) == b
 | .int a, .bl b=>a == (if b then 1 else 0)
 | .int a, .int b=>a == b
 | .str a, .str b=>a == b
 | _,_=>false
theorem aGy {A:Around}{s:Shared}{y x:V}{u v:Value}(ry:RelV y u)(rx:RelV x v)(fy:mS y=true)(fx:mS x=true):SeqAt.EqAt A s u v (eqV y x):=by
 cases y with
 | non=>
  cases ry
  cases x with
  | non=>cases rx;exact SeqAt.EqAt.same _
  | bl b=>cases rx;exact SeqAt.EqAt.none_bool b
  | int b=>obtain ⟨t,rfl⟩:=rx;exact SeqAt.EqAt.none_int b t
  | str b=>obtain ⟨t,rfl⟩:=rx;exact SeqAt.EqAt.none_str b t
  | _=>exact absurd (show false=true from fx) bu
 | bl a=>
  cases ry
  cases x with
  | non=>cases rx;exact SeqAt.EqAt.bool_none a
  | bl b=>cases rx;exact SeqAt.EqAt.bool_bool a b
  | int b=>obtain ⟨t,rfl⟩:=rx;exact SeqAt.EqAt.bool_int a b t
  | str b=>obtain ⟨t,rfl⟩:=rx;exact SeqAt.EqAt.bool_str a b t
  | _=>exact absurd (show false=true from fx) bu
 | int a=>
  obtain ⟨t',rfl⟩:=ry
  cases x with
  | non=>cases rx;exact SeqAt.EqAt.int_none a t'
  | bl b=>cases rx;exact SeqAt.EqAt.int_bool a t' b
  | int b=>obtain ⟨t,rfl⟩:=rx;exact SeqAt.EqAt.int_int a t' b t
  | str b=>obtain ⟨t,rfl⟩:=rx;exact SeqAt.EqAt.int_str a t' b t
  | _=>exact absurd (show false=true from fx) bu
 | str a=>
  obtain ⟨t',rfl⟩:=ry
  cases x with
  | non=>cases rx;exact SeqAt.EqAt.str_none a t'
  | bl b=>cases rx;exact SeqAt.EqAt.str_bool a t' b
  | int b=>obtain ⟨t,rfl⟩:=rx;exact SeqAt.EqAt.str_int a t' b t
  | str b=>obtain ⟨t,rfl⟩:=rx;exact SeqAt.EqAt.str_str a t' b t
  | _=>exact absurd (show false=true from fx) bu
 | _=>exact absurd (show false=true from fy) bu
def eqU (x:V) (u:Value):Bool:=match u with
 | .none=>eqV .non x
 | .bool b=>eqV (.bl b) x
 | .int i _=>eqV (.int i) x
 | .str z _=>eqV (.str z) x
 | _=>false
theorem zO {x y:V}{u:Value}(r:RelV y u)(f:mS y=true):eqU x u=eqV y x:=by
 cases y with
 | non=>cases r;rfl
 | bl b=>cases r;rfl
 | int i=>obtain ⟨t,rfl⟩:=r;rfl
 | str z=>obtain ⟨t,rfl⟩:=r;rfl
 | _=>exact absurd (show false=true from f) bu
theorem qP {x:V}:∀ {xs:List V} {us:List Value},Vals xs us->xs.all mS=true->us.any (eqU x)=xs.any fun y=>eqV y x
 | _,_, .nil,_=>rfl
 | y :: xs,u :: us, .cons r t,f=>by
  rw [qo,ff] at f
  rw [ue,ue,zO r f.1,qP t f.2]
theorem iG {A:Around}{s:Shared}{x:V}{v:Value}(rx:RelV x v)(fx:mS x=true):∀ {xs:List V} {us:List Value},Vals xs us->xs.all mS=true->∀ u∈us,SeqAt.EqAt A s u v (eqU x u)
 | _,_, .nil,_=>fun u hu=>by cases hu
 | y :: xs,u :: us, .cons r t,f=>fun u' hu=>by
  rw [qo,ff] at f
  rcases bj.mp hu with rfl | hu
  ·rw [zO r f.1];exact aGy r rx f.1 fx
  ·exact iG rx fx t f.2 u' hu
def inV (x:V) (xs:List V):Bool:=xs.any fun y=>eqV y x
def rIn (K:ae) (neg:Bool):R2:=fun x y H Q=>∃ p xs,y = .ref p/\(SqL K H p xs\/SqT K H p xs)/\mS x=true/\xs.all mS=true/\Q (.bl (if neg then !inV x xs else inV x xs)) H
theorem aAP:OpR X (i7 .In) (rIn X.K false):=by
 intro pins s σ H x y v u Q I rx ry h
 obtain ⟨p,xs,rfl,hq,fx,fs,q⟩:=h
 cases ry
 rcases hq with hq | hq
 ·obtain ⟨its,r,pl,hz⟩:=I.list hq
  refine SeqAt.in_listAt (eqU x) pl.isList (fun w hw=>iG rx fx r fs w (by simpa using hw)) ⟨.bl _,H,I,rfl,?_⟩
  rw [show its.toArray.any (eqU x)=its.any (eqU x) by simp,qP r fs]
  exact q
 ·obtain ⟨its,r,pl,hz⟩:=I.tuple hq
  refine SeqAt.in_tupleAt (eqU x) pl (fun w hw=>iG rx fx r fs w (by simpa using hw)) ⟨.bl _,H,I,rfl,?_⟩
  rw [show its.toArray.any (eqU x)=its.any (eqU x) by simp,qP r fs]
  exact q
theorem vR:OpR X (i7 .NotIn) (rIn X.K true):=by
 intro pins s σ H x y v u Q I rx ry h
 obtain ⟨p,xs,rfl,hq,fx,fs,q⟩:=h
 cases ry
 rcases hq with hq | hq
 ·obtain ⟨its,r,pl,hz⟩:=I.list hq
  refine SeqAt.notIn_listAt (eqU x) pl.isList (fun w hw=>iG rx fx r fs w (by simpa using hw)) ⟨.bl _,H,I,rfl,?_⟩
  rw [show its.toArray.any (eqU x)=its.any (eqU x) by simp,qP r fs]
  exact q
 ·obtain ⟨its,r,pl,hz⟩:=I.tuple hq
  refine SeqAt.notIn_tupleAt (eqU x) pl (fun w hw=>iG rx fx r fs w (by simpa using hw)) ⟨.bl _,H,I,rfl,?_⟩
  rw [show its.toArray.any (eqU x)=its.any (eqU x) by simp,qP r fs]
  exact q
theorem vT:CallR X (.builtin "len") (fun xs H Q=>∃ p ys,xs=[.ref p]/\(SqL X.K H p ys\/SqT X.K H p ys)/\Q (.int ys.length) H):=by
 intro pins s σ H xs us Q I r h
 obtain ⟨p,ys,rfl,hq,q⟩:=h
 obtain ⟨u,rfl,rx⟩:=rN r
 cases rx
 have hn:=vN
 rcases hq with hq | hq
 ·obtain ⟨its,r',pl,hz⟩:=I.list hq
  have hlen:=r'.length
  exact Calls.call_len_list pl.isList (by simp only [aq] <;> omega) ⟨.int ys.length,H,I.tok _,⟨s.toks+1,by rw [aq,hlen]⟩,q⟩
 ·obtain ⟨its,r',pl,hz⟩:=I.tuple hq
  have hlen:=r'.length
  exact len_tuple pl (by simp only [aq] <;> omega) ⟨.int ys.length,H,I.tok _,⟨s.toks+1,by rw [aq,hlen]⟩,q⟩
theorem CallR.or {f:Value}{r r':List V->Hp->VK->Prop}(h:CallR X f r)(h':CallR X f r'):CallR X f (fun xs H Q=>r xs H Q\/r' xs H Q):=by
 intro pins s σ H xs us Q I rs q
 rcases q with q | q
 ·exact h pins s σ H xs us Q I rs q
 ·exact h' pins s σ H xs us Q I rs q
theorem wH:CallR X (.type "list") (fun xs H Q=>∃ p ys,xs=[.ref p]/\(SqL X.K H p ys\/SqT X.K H p ys)/\∀ l,H l=none->Q (.ref l) (upd H l (.lst ys))):=by
 intro pins s σ H xs us Q I r h
 obtain ⟨p,ys,rfl,hq,q⟩:=h
 obtain ⟨u,rfl,rx⟩:=rN r
 cases rx
 have fin:∀ (its:List Value),Vals ys its->ys.length<=ba->∀ (h':Heap) (c':Nat),(∀ b o',s.heap.get? b=some o'->h'.get? b=some o') ->
   h'.get? s.heap.objs.size=some { cls := .type "list",dict:=none,data := .seq its.toArray c',slots:=#[] }->EP X pins σ Q (.ref s.heap.objs.size) { s with heap:=h' }:=fun its r' hz h' c' kp e=>
  ⟨.ref s.heap.objs.size,_,I.laid (t':=s.toks) kp (ay _) (show ObjOk X.prog X.w _ h' _ (.lst ys) from ⟨hz,its,c',r',e⟩),rfl,q _ (I.hok.fresh (ay _))⟩
 rcases hq with hq | hq
 ·obtain ⟨its,r',pl,hz⟩:=I.list hq
  have hlen:=r'.length
  obtain ⟨o,ho,hc,n,hd⟩:=pl.isList
  exact call_list_seq p (.inl rfl) ho hc hd (fun h' c' kp e=>fin its r' hz h' c' kp e) (by simp only [aq] <;> omega)
 ·obtain ⟨its,r',pl,hz⟩:=I.tuple hq
  have hlen:=r'.length
  obtain ⟨o,ho,hc,n,hd⟩:=pl
  exact call_list_seq p (.inr rfl) ho hc hd (fun h' c' kp e=>fin its r' hz h' c' kp e) (by simp only [aq] <;> omega)
theorem tW:CallR X (.type "tuple") (fun xs H Q=>∃ p ys,xs=[.ref p]/\((SqL X.K H p ys/\∀ l,H l=none->Q (.ref l) (upd H l (.tup ys)))\/(SqT X.K H p ys/\Q (.ref p) H))):=by
 intro pins s σ H xs us Q I r h
 obtain ⟨p,ys,rfl,h⟩:=h
 obtain ⟨u,rfl,rx⟩:=rN r
 cases rx
 rcases h with ⟨hq,q⟩ | ⟨hq,q⟩
 ·obtain ⟨its,r',pl,hz⟩:=I.list hq
  have hlen:=r'.length
  refine call_tuple_list pl.isList (fun h' kp=>?_) (by simp only [aq] <;> omega)
  have I1:Inv X pins σ H { s with heap:=h' }:=I.kept (t':=s.toks) kp
  have I2:Inv X pins σ (upd H h'.objs.size (.tup ys)) { s with heap:=h'.push { cls := .type "tuple",data := .seq its.toArray } }:=
   I1.laid (t':=s.toks) (fun b o e=>ao _ e) (ay _) (show ObjOk X.prog X.w _ _ _ (.tup ys) from ⟨hz,its,r',TupN.new _ _⟩)
  exact ⟨.ref h'.objs.size,_,I2,rfl,q _ (I1.hok.fresh (ay _))⟩
 ·obtain ⟨its,r',pl,hz⟩:=I.tuple hq
  exact call_tuple_same pl ⟨.ref p,H,I,rfl,q⟩
def tyV (K:ae) (T:String) (x:V) (H:Hp):Prop:=match x with
 | .str _=>T="str"
 | .int _=>T="int"
 | .ref p=>(T="list"/\∃ xs,SqL K H p xs)\/(T="tuple"/\∃ o,K.lookup p=some o/\o.cls = .type "tuple"/\o.dict=none) \/
   (T="dict"/\((∃ kvs,H p=some (.dK kvs))\/∃ kvs,H p=some (.dT kvs)))\/(T="set"/\∃ S n,H p=some (.set S n))
 | _=>False
theorem aGD {pins:List (Addr × Obj)}{σ:St}{H:Hp}{s:Shared}{T:String}{x:V}{v:Value}(I:Inv X pins σ H s)(r:RelV x v)(ty:tyV X.K T x H) :
  s.TypeIs v T/\∀ a,v = .ref a->∃ ob,s.heap.get? a=some ob/\ob.dict=none:=by
 cases x with
 | str z=>
  obtain ⟨t,rfl⟩:=r
  cases (show T="str" from ty)
  exact ⟨typeIs_str s z t,fun _ e=>nomatch e⟩
 | int i=>
  obtain ⟨t,rfl⟩:=r
  cases (show T="int" from ty)
  exact ⟨typeIs_int s i t,fun _ e=>nomatch e⟩
 | ref p=>
  cases r
  rcases ty with ⟨rfl,xs,hq⟩ | ⟨rfl,o,hk,hc,hd⟩ | ⟨rfl,hk⟩ | ⟨rfl,S,n,hk⟩
  ·obtain ⟨its,_,pl,_⟩:=I.list hq
   refine ⟨pl.isList.typeIs,fun a e=>?_⟩
   cases e
   obtain ⟨o,n,e,c,hd,_⟩:=pl
   exact ⟨o,e,hd⟩
  ·refine ⟨⟨o,I.kIn p o hk,hc⟩,fun a e=>?_⟩
   cases e
   exact ⟨o,I.kIn _ o hk,hd⟩
  ·have z:∃ o,s.heap.get? p=some o/\o.ExactDict:=by
    rcases hk with ⟨kvs,hk⟩ | ⟨kvs,hk⟩
    ·obtain ⟨_,_,_,_,o,_,_,e,ex,_⟩:=I.hok p _ hk
     exact ⟨o,e,ex⟩
    ·obtain ⟨_,_,_,_,o,_,_,e,ex,_⟩:=I.hok p _ hk
     exact ⟨o,e,ex⟩
   obtain ⟨o,e,ex⟩:=z
   refine ⟨⟨o,e,ex.1⟩,fun a e2=>?_⟩
   cases e2
   exact ⟨o,e,ex.2.1⟩
  ·obtain ⟨o,_,_,_,e,ex,_⟩:=I.hok p _ hk
   refine ⟨⟨o,e,ex.1⟩,fun a e2=>?_⟩
   cases e2
   exact ⟨o,e,ex.2.1⟩
 | _=>exact ki ty
def tBM (K:ae) (T:String) (r:V->List V->Hp->VK->Prop) (to:TE) (t:TA):TE:=fun σ H Q=>to σ H fun x H1=>tyV K T x H1/\t σ H1 fun xs H2=>r x xs H2 Q
variable {o e:Expr}{es:List Expr}{to:TE}{t:TA}{name:Str}{apos cpos:Pos}{T id:String}{r:V->List V->Hp->VK->Prop}
theorem aIm (pa:PlainAttrs T)(slot:Slot T name id)(hty:typeOf (.builtin id)=pure (.type "method_descriptor"))(hm:MtR X id r)(ho:PE X o to)(ha:PA X (e :: es) t)
  (hbase:attributeBase o name X.env (eval o X.env)=eval o X.env:=by rfl)
  (hfew:((vg cpos (fm (e :: es) X.env)).all (fun x=>!x.1) && (backToKw cpos (Bc [] X.env)).all (fun x=>x.1.isSome)
   && decide ((e :: es).length+([]:List Keyword).length+(if ([]:List Keyword).isEmpty then 0 else 1)<30))=true:=by rfl)
  (hline:(apos.endLine == cpos.line)=true:=by rfl) (hs:fm (e :: es) X.env=(false,eval e X.env) :: fm es X.env:=by rfl) (hplain:(vg cpos (fm es X.env)).any (·.1)=false:=by rfl) :
  PE X (.Call (.Attribute o name apos) (e :: es) [] cpos) (tBM X.K T r to t):=by
 intro pins s σ H Q I h
 refine wpAny_Call_method_late hbase hfew hline rfl (thn (ho pins s σ H _ I h) fun v s1 ⟨x,H1,I1,r1,ty,q1⟩=>?_)
 obtain ⟨h1,h2⟩:=aGD I1 r1 ty
 refine ⟨T,id,pa,slot,hty,h1,h2,?_⟩
 have hA:=ha cpos pins s1 σ H1 _ I1 q1
 rw [hs] at hA ⊢
 refine Calls.callWith_builtin (by show (false || (vg cpos (fm es X.env)).any (·.1))=false;rw [hplain] <;> rfl) (zg ?_)
 exact thn hA fun us s2 ⟨vs,H2,I2,r2,q2⟩=>hm pins s2 σ H2 x vs v us Q I2 r1 r2 q2
end
def MtM (X:Cx) (id:String) (r:V->List V->Hp->VK->Prop):Prop:=
 ∀ (pins:List (Addr × Obj)) (s:Shared) (σ:St) (H:Hp) (x:V) (xs:List V) (v:Value) (us:List Value) (Q:VK),Inv X pins σ H s->RelV x v->Vals xs us->r x xs H Q ->
  wpAny (model X.prog X.w) X.A (call (.builtin id) (v :: us)) (EP X pins σ Q) X.xe s
theorem Vals.one:∀ {x:V} {us:List Value},Vals [x] us->∃ u,us=[u]/\RelV x u
 | _,_, .cons r .nil=>⟨_,rfl,r⟩
theorem Vals.two:∀ {x y:V} {us:List Value},Vals [x,y] us->∃ u v,us=[u,v]/\RelV x u/\RelV y v
 | _,_,_, .cons r (.cons q .nil)=>⟨_,_,rfl,r,q⟩
theorem Vals.eraseIdx:∀ {xs:List V} {us:List Value} (i:Nat),Vals xs us->Vals (xs.eraseIdx i) (us.eraseIdx i)
 | _,_,_, .nil => .nil
 | _,_,0, .cons _ t=>t
 | _,_,i+1, .cons r t => .cons r (Vals.eraseIdx i t)
theorem Vals.rep {xs:List V}{us:List Value}(h:Vals xs us):∀ k:Nat,Vals (dj k xs).flatten (dj k us).flatten
 | 0 => .nil
 | k+1=>by
  rw [mq,mq,rg,rg]
  exact Vals.append h (Vals.rep h k)
theorem vJ (its:List Value):∀ (k:Nat) (acc:List Value),
  List.foldl (fun x1 x2=>x1++x2) acc.toArray (dj k its.toArray)=(acc++(dj k its).flatten).toArray
 | 0,acc=>by simp
 | k+1,acc=>by
  have e:acc.toArray++its.toArray=(acc++its).toArray:=by simp
  have e2:(acc++its)++(dj k its).flatten=acc++(dj (k+1) its).flatten:=by
   rw [mq,rg,gg]
  rw [<- e2,<- vJ its k (acc++its),<- e,mq,List.foldl_cons]
section
variable {X:Cx}{pins:List (Addr × Obj)}{σ:St}{H:Hp}{s:Shared}{l b:Addr}{xs ys zs:List V}
theorem Inv.lset {its its':List Value}{n:Nat}{f:Array Value->Array Value}{t':Nat}(I:Inv X pins σ H s)(hH:H l=some (.lst xs))
  (e:s.heap.get? l=some { cls := .type "list",data := .seq its.toArray n }) (hf:f its.toArray=its'.toArray) (hv:Vals ys its') (hz:ys.length<=ba) :
  Inv X pins σ (upd H l (.lst ys)) { s with heap:=s.heap.update l (ji f),toks:=t' }:=by
 have q:=PySem.IsL.update e f
 rw [hf] at q
 refine I.write (x:=l) (e:=l) (by rw [hH];exact trivial) (.inl rfl) (fun b' u hb hu=>(kc s.heap (ji f) (jk hb)).trans hu) ⟨_,q⟩ ?_
 exact ⟨hz,its',_,hv,q⟩
theorem Inv.lnew {its:List Value}{t':Nat}(I:Inv X pins σ H s)(hv:Vals ys its)(hz:ys.length<=ba) :
  Inv X pins σ (upd H s.heap.objs.size (.lst ys)) { s with heap:=s.heap.push { cls := .type "list",data := .seq its.toArray },toks:=t' }:=
 I.laid (fun _ _ q=>ao _ q) (ay _) ⟨hz,its,0,hv,bp _ rfl⟩
theorem Inv.fresh (I:Inv X pins σ H s):H s.heap.objs.size=none:=I.hok.fresh (ay _)
theorem Inv.lstM (I:Inv X pins σ H s)(hH:H l=some (.lst xs)):xs.length<=ba/\∃ (its:List Value) (n:Nat),Vals xs its/\xs.length=its.length/\s.heap.get? l=some { cls := .type "list",data := .seq its.toArray n }:=by
 obtain ⟨z,its,n,r,e⟩:=I.hok l _ hH
 exact ⟨z,its,n,r,r.length,e⟩
theorem aDQ {n:Nat}(h:n<=ba):qh n=false:=by
 unfold qh
 exact decide_eq_false (by omega)
end
section
variable {X:Cx}
def eJ:V->List V->Hp->VK->Prop:=fun x vs H Q=>∃ l xs y,x = .ref l/\vs=[y]/\H l=some (.lst xs)/\xs.length<ba/\Q .non (upd H l (.lst (xs++[y])))
theorem eN:MtM X "list.append" eJ:=by
 intro pins s σ H x vs v us Q I rx rv h
 obtain ⟨l,xs,y,rfl,rfl,hH,hz,q⟩:=h
 cases rx
 obtain ⟨u,rfl,ru⟩:=rv.one
 obtain ⟨z,its,n,r,hl,e⟩:=I.lstM hH
 refine wk F.slot_list_append ⟨_,e,rfl⟩ F.entry_list_append (F.args_list_append_2 _ _) (PySem.list_append l its.toArray n u (by rw [aq];omega)) ⟨e,?_⟩
 refine ⟨.non,_,I.lset (its':=its++[u]) hH e (by simp) (r.append (.cons ru .nil)) ?_,rfl,q⟩
 rw [au,jq]
 omega
def aJk:R2:=fun x y H Q=>∃ l b xs zs,x = .ref l/\y = .ref b/\H l=some (.lst xs)/\H b=some (.lst zs)/\xs.length+zs.length<=ba/\∀ p,H p=none->Q (.ref p) (upd H p (.lst (xs++zs)))
theorem aGE:OpR X (lh .Add) aJk:=by
 intro pins s σ H x y v u Q I rx ry h
 obtain ⟨l,b,xs,zs,rfl,rfl,hH,hB,hz,q⟩:=h
 cases rx
 cases ry
 obtain ⟨z,its,n,r,hl,e⟩:=I.lstM hH
 obtain ⟨z2,its2,n2,r2,hl2,e2⟩:=I.lstM hB
 refine PySem.P.add_list e e2 ?_ (by rw [aq,aq];omega)
 have ea:its.toArray++its2.toArray=(its++its2).toArray:=by simp
 rw [ea]
 exact ⟨.ref _,_,I.lnew (t':=s.toks) (r.append r2) (by rw [au];omega),rfl,q _ I.fresh⟩
def aJs:R2:=fun x y H Q=>∃ l k xs,x = .ref l/\y = .int k/\H l=some (.lst xs)/\-(2 ^ 63)<=k/\k<2 ^ 63/\xs.length*k.toNat<=ba /\
 ∀ p,H p=none->Q (.ref p) (upd H p (.lst (dj k.toNat xs).flatten))
theorem aFV {α:Type}(xs:List α)(k:Nat):(dj k xs).flatten.length=k*xs.length:=by
 induction k with
 | zero=>simp
 | succ k ih=>rw [mq,rg,au,ih,Nat.succ_mul,AV]
theorem aHy:OpR X (lh .Mult) aJs:=by
 intro pins s σ H x y v u Q I rx ry h
 obtain ⟨l,k,xs,rfl,rfl,hH,h1,h2,hz,q⟩:=h
 cases rx
 obtain ⟨t,rfl⟩:=ry
 obtain ⟨z,its,n,r,hl,e⟩:=I.lstM hH
 have hlen:its.toArray.size*k.toNat<=ba:=by rw [aq,<- hl];exact hz
 have hcap:¬ its.toArray.size*k.toNat > (2 ^ 63 - 1) / 8:=by
  have:(ba:Nat)<=(2 ^ 63 - 1) / 8:=by decide
  omega
 have hfit:¬ (!Builtin.List.listFitsIndex k)=true:=by
  rw [fitsIndex_both h1 h2]
  exact bu
 have hlong:¬ qh (its.toArray.size*k.toNat)=true:=by
  rw [aDQ hlen]
  exact bu
 have hnew:List.foldl (fun x1 x2=>x1++x2) #[] (dj (if its.toArray.isEmpty=true then 0 else k.toNat) its.toArray)=(dj k.toNat its).flatten.toArray:=by
  have f0:∀ m:Nat,List.foldl (fun x1 x2=>x1++x2) #[] (dj m its.toArray)=(dj m its).flatten.toArray:=fun m=>by
   have:=vJ its m []
   rw [ur] at this
   exact this
  rw [f0]
  cases its with
  | nil=>simp
  | cons a r'=>rw [if_neg (by simp)]
 refine wpAny_binaryOp_repeat_ref (T:="list") (U:="int") (by decide) ⟨_,e,rfl⟩ (fun s'=>typeIs_int s' k t) noFill_list_mul F.fills_int_mul F.slot_int_rmul repeat_list F.slot_int_index.lookup
  (wk F.slot_int_rmul (typeIs_int s k t) F.entry_int_rmul (F.args_int_rmul_2 _ _) (int___rmul___int_list k t l its.toArray n)
   ⟨e,rfl,⟨_,e,rfl⟩,wk F.slot_list_mul ⟨_,e,rfl⟩ F.entry_list_mul (F.args_list_mul_2 _ _) (AutoListH.list___mul___list_int_3 l its.toArray n k t hfit hcap hlong) ⟨e,?_⟩⟩)
 rw [hnew]
 exact ⟨.ref _,_,I.lnew (t':=s.toks) (r.rep k.toNat) (by rw [aFV,Nat.mul_comm];exact hz),rfl,q _ I.fresh⟩
end
section
variable {prog:Program}{w:World}{A:Around}{E:Value->Shared->Prop}{s:Shared}
end
section
variable {X:Cx}
end
end L2
namespace Att
open PySem PySem.W PySem.Calls PyProof.Rows
theorem pV {P:Params}{h:Heap}:∀ (ns:List Int) (vs:List Value),WellAll P h vs (ns.map WData.int)->IntsAre vs ns:=by
 intro ns
 induction ns with
 | nil=>
  intro vs w
  rw [sk] at w
  cases w
  exact .nil
 | cons n ns ih=>
  intro vs w
  rw [df] at w
  cases w with
  | cons a b=>
   cases a
   exact .cons _ _ (ih _ b)
theorem aBF {l:OpenLaw}{n:Nat}(hn:l.most=some n){P:Params}{h:Heap}{args:List WData}{vals:List Value}
  (hpre:l.row.toRowW.claim.pre args=true) (hwl:WellAll P h vals args) :
  ∃ a vs ns,vals=[Value.ref a]/\args=[WData.list (ns.map WData.int)]/\h.get? a=some { cls := .type "list",data := .seq vs.toArray }/\IntsAre vs ns/\ns.length<=n:=by
 have hsh:WShape.hasAll [] args [.list .int]=true:=(pre_splitW hpre).1
 have hc:l.pre.holds [] { args:=args }=true:=(pre_splitW hpre).2
 obtain ⟨d,r,rfl,h1,h2⟩:=hasAllW_cons hsh
 obtain rfl:=hasAllW_nil h2
 obtain ⟨xs,rfl,h3⟩:=hasW_list h1
 obtain ⟨ns,rfl⟩:=items_int h3
 have hlen:ns.length<=n:=by
  unfold OpenLaw.pre at hc
  have h4:(WTm.not (.lt (.lit (.int (n:Int))) (.len (.arg 0)))).holds [] { args:=[.list (ns.map .int)] }=true:=by
   have h4:=(holds_andW hc).1
   rw [hn] at h4
   exact h4
  have h5:=condW_of h4 (w_not (w_lt w_lit (w_len_list (w_arg rfl))))
  rw [af] at h5
  refine Nat.le_of_not_lt fun q=>?_
  have q':(n:Int)<((ns.length:Nat):Int):=by omega
  first
   | (rw [decide_eq_true q'] at h5;exact absurd h5 (by decide))
   | (simp at h5;omega)
 cases hwl with
 | cons w1 w2=>
  cases w2
  cases w1 with
  | list ho hall=>exact ⟨_,_,ns,rfl,rfl,ho,pV ns _ hall,hlen⟩
theorem aBC (l:OpenLaw)(args:List WData):l.row.toRowW.claim.post args (.bool true) args=true:=
 postW_of (r:=l.row.toRowW) (X:=(true == true))
  (show WShape.has [] (.bool true) .bool=true by first | rfl | decide | simp [WShape.has,WShape.arms,WShape.armsAll])
  (show (WTm.eq .res (.lit (.bool true))).value [] { args:=args,res:=some (.bool true),after:=args }=some (.bool (true == true)) from w_eq_bool (w_res rfl) w_lit) rfl
theorem attach_call {l:OpenLaw}{n:Nat}{q:Program}{loose:List Str}{XP:(Str->Option Value)->Heap->Prop}{YP:World->Heap->Prop}{d:DefRec}
  (hn:l.most=some n) (hdf:d.params.defaults=[])
  (call:∀ (w:World) (s₀ s₁:Shared) (mg mb:Str->Option Value) (fa:Addr) (o:Obj) (pm cd doc:Value) (a:Addr) (vs:List Value) (ns:List Int),
   Ground q loose [] XP w s₀ mg mb s₁.heap->YP w s₁.heap ->
   s₁.heap.get? fa=some o->o.data = .func (docDef d.name d.params d.body d.scope pm cd doc)->s₁.heap.CodeRec cd d.name->mg d.name=some (.ref fa) ->
   s₁.heap.get? a=some { cls := .type "list",data := .seq vs.toArray }->IntsAre vs ns->ns.length<=n->s₁.gens=#[] ->
   uq (model l.prog w) AK (.call (.ref fa) ⟨[.ref a],[]⟩) (fun r s'=>r = .ok (.ret (.bool true))/\OldK s₁.heap s'.heap/\s'.os=s₁.os/\v8 s'.gens) s₁) :
  WalkO q loose XP YP l.row.toRowW d [] (fun f vs=>PySem.call f vs):=by
 intro w s₀ s₁ mg mb G Y fa o pm cd doc dV kV ho hd hcd hD hmg hg args vals as hpre hlay hrd hwl hlo
 obtain rfl:dV = .none:=Dflts.none hD hdf
 obtain rfl:kV = .none:=Dflts.noKw hD
 obtain ⟨a,vs,ns,rfl,rfl,hobj,hints,hlen⟩:=aBF hn hpre hwl
 refine enter_call (kq (call w s₀ s₁ mg mb fa o pm cd doc a vs ns G Y ho (fd_plain hd) hcd hmg hobj hints hlen hg) fun r s' hq=>?_)
 obtain ⟨rfl,h2,h3,h4⟩:=hq
 exact ⟨.inl ⟨.bool true, .bool true,[],rfl,fun _=>rfl, .bool true,aBC l _,fun _=>⟨List.Pairwise.nil,fun _ hm=>(nomatch hm)⟩⟩,h2,h3,h4⟩
section
variable {prog:Program}{w:World}{A:Around}{E:Value->Shared->Prop}{s:Shared}{K:Frag}
end
end Att
namespace L2
open PySem PySem.Spec PyProof.Rows
theorem wW:∀ {vs:List Value} {ns:List Int},IntsAre vs ns->Vals (ns.map V.int) vs
 | _,_, .nil => .nil
 | _,_, .cons n t h => .cons ⟨t,rfl⟩ (wW h)
def aIg (H:Hp):Prop:=∀ b,H b=none\/∃ o xs,H b=some (.frz o (.lst xs))
theorem aDJ {P:Program}{w:World}{K:ae}{mg mb:Str->Option Value}{CX:CXT}{k:Nat}{fa a:Addr}{fd:FuncData}{x:Str}{sp:Sp}{s₁:Shared}{vs:List Value}{ns:List Int}
  (KX:K.In s₁.heap) (hns:s₁.heap.Ns bg mg) (hb:s₁.heap.Ns AI mb) (hbb:∀ x:Str,x≠"__name__"->mb x=fi x) (hlim:s₁.heap.NoLimit) (hg:s₁.gens=#[])
  (ha:s₁.heap.get? a=some { cls := .type "list",data := .seq vs.toArray }) (hi:IntsAre vs ns) (hl:ns.length<=ba) (hr:Room k AK)
  (F:∀ base:Heap,K.In base->base.Ns bg mg->FnOk P w K mg base CX k fa fd [x] sp) (hbind:∀ (s:Shared) (u:Value),A9 s fd ⟨[u],[]⟩ [(x,u)])
  (hsp:∀ H:Hp,aIg H->SqL K H a (ns.map V.int)->sp [.ref a] H (fun v _=>v = .bl true) fun _ _ _=>False)
  (hCX:∀ H e s',CX [] H s₁ (fun _ _ _=>False) e s'->False) :
  uq (model P w) AK (.call (.ref fa) ⟨[.ref a],[]⟩) (fun r s'=>r = .ok (.ret (.bool true))/\OldK s₁.heap s'.heap/\s'.os=s₁.os/\v8 s'.gens) s₁:=by
 have rv:=wW hi
 have lenV:=hi.length
 have core:∀ H:Hp,aIg H->SqL K H a (ns.map V.int)->HOk P w H s₁.heap->(∀ b,H b≠none->b=a)->(H a≠none->K.lookup a=none) ->
   uq (model P w) AK (.call (.ref fa) ⟨[.ref a],[]⟩) (fun r s'=>r = .ok (.ret (.bool true))/\OldK s₁.heap s'.heap/\s'.os=s₁.os/\v8 s'.gens) s₁:=by
  intro H hO hS hok hA hK
  have base_of:∀ {b:Addr} {o:Obj},s₁.heap.get? b=some o->H b=none->(aEa s₁.heap H).get? b=some o:=fun e n=>aDR e n
  have noA:∀ {b:Addr} {o:Obj} {es:Array DictEntry} {ep:Nat},s₁.heap.get? b=some o->o.data = .dict es ep->H b=none:=fun {b o es ep} e d=>by
   cases q:H b with
   | none=>rfl
   | some u=>
    have e':b=a:=hA b (by rw [q];simp)
    subst e'
    rw [ha] at e;cases e
    have d':Data.seq vs.toArray _=Data.dict es ep:=d
    cases d'
  have nsK:∀ {b:Addr} {m:Str->Option Value},s₁.heap.Ns b m->(aEa s₁.heap H).Ns b m:=fun {b m} ⟨o,es,ep,e,d,r⟩=>⟨o,es,ep,base_of e (noA e d),d,r⟩
  have hKb:K.In (aEa s₁.heap H):=fun b o e=>base_of (KX b o e) (by
   cases q:H b with
   | none=>rfl
   | some u=>
    have e':b=a:=hA b (by rw [q];simp)
    subst e'
    rw [hK (by rw [q];simp)] at e;cases e)
  have hM:Mod K mg (aEa s₁.heap H):=⟨hKb,nsK hns,⟨mb,nsK hb,hbb⟩,let ⟨mc,h1,h2⟩:=hlim;⟨mc,nsK h1,h2⟩⟩
  have e0:aHP P w K mg (aEa s₁.heap H) AK [] s₁ H:=⟨rfl,hM,fun b o e=>aFT e,Nat.le_of_eq (aBb _ _),trivial,fun b hb=>absurd (show b∈([]:List Addr) from hb) (by simp),hok, .of_eq hg⟩
  refine kq ((F _ hKb (nsK hns)).run AK [] s₁ H ⟨[.ref a],[]⟩ [.ref a] [.ref a] _ _ hr e0 (hbind s₁ (.ref a)) (.cons rfl .nil) (hsp H hO hS)) fun r s' h=>?_
  cases r with
  | error e=>exact (hCX H e s' h).elim
  | ok fl=>
   cases fl with
   | next=>exact ki h
   | brk=>exact ki h
   | cont=>exact ki h
   | ret u=>
    obtain ⟨v,H',os,bare,un,hok',r',q⟩:=h
    have q':v = .bl true:=q
    subst q'
    obtain rfl:u=Value.bool true:=r'
    refine ⟨rfl,OldK.of_keep fun b o e=>?_,os,bare⟩
    cases q:H b with
    | none=>exact un.keep b o e q (by intro z;exact absurd (show b∈([]:List Addr) from z) (by simp)) (by simp)
    | some u=>
     rcases hO b with z | ⟨ob,xs,z⟩
     ·rw [q] at z;cases z
     ·have z2:=un.frzs b ob _ z
      obtain ⟨e1,_⟩:=hok b _ z
      obtain ⟨e2,_⟩:=hok' b _ z2
      rw [e] at e1;cases e1
      exact e2
 cases hk:K.lookup a with
 | some o=>
  have e:=KX a o hk
  rw [ha] at e
  cases e
  refine core (fun _=>none) (fun _ => .inl rfl) (.inr ⟨_,vs.toArray,_,hk,rfl,rfl,rfl,by rw [aq,lenV];exact hl,by simpa using rv⟩) (fun b u z=>by have z':(none:Option HO)=some u:=z;cases z') (fun b z=>absurd rfl z) fun z=>absurd rfl z
 | none=>
  refine core (fun b=>if b=a then some (.frz { cls := .type "list",data := .seq vs.toArray } (.lst (ns.map V.int))) else none) (fun b=>?_) (.inl (.inr ⟨{ cls := .type "list",data := .seq vs.toArray },if_pos rfl⟩)) (fun b u z=>?_) (fun b z=>?_) fun _=>hk
  ·by_cases hb:b=a
   ·exact .inr ⟨_,_,if_pos hb⟩
   ·exact .inl (if_neg hb)
  ·by_cases hb:b=a
   ·have z':=(if_pos hb).symm.trans z
    cases z'
    subst hb
    exact ⟨ha,by rw [af];exact hl,vs,_,rv,ha⟩
   ·have z':=(if_neg hb).symm.trans z
    cases z'
  ·by_cases hb:b=a
   ·exact hb
   ·exact absurd (if_neg hb) z
theorem aFJ {l:PySem.W.OpenLaw}{n k:Nat}{q:Program}{loose:List Str}{XP:(Str->Option Value)->Heap->Prop}{YP:World->Heap->Prop}{d:DefRec}{K:Params->ae}{CX:World->CXT}{sp:World->Sp}{x:Str}
  (hn:l.most=some n) (hn2:n<=ba) (hdf:d.params.defaults=[]) (hr:Room k AK)
  (hY:∀ (w:World) (h:Heap),YP w h->(K w.params).In h)
  (F:∀ (w:World) (mg:Str->Option Value) (fa:Addr) (h:Heap),(K w.params).In h->h.Ns bg mg->mg d.name=some (.ref fa) ->
   ∃ fd:FuncData,(∀ (s:Shared) (u:Value),A9 s fd ⟨[u],[]⟩ [(x,u)]) /\
    ∀ base:Heap,(K w.params).In base->base.Ns bg mg->FnOk l.prog w (K w.params) mg base (CX w) k fa fd [x] (sp w))
  (hsp:∀ (w:World) (H:Hp) (a:Addr) (ns:List Int),ns.length<=n->aIg H->SqL (K w.params) H a (ns.map V.int)->sp w [.ref a] H (fun v _=>v = .bl true) fun _ _ _=>False)
  (hCX:∀ (w:World) (H:Hp) (s:Shared) (e:Value) (s':Shared),CX w [] H s (fun _ _ _=>False) e s'->False) :
  PySem.W.WalkO q loose XP YP l.row.toRowW d [] (fun f vs=>PySem.call f vs):=by
 refine Att.attach_call hn hdf fun w s₀ s₁ mg mb fa o pm cd doc a vs ns G Y ho hd hcd hmg hobj hints hlen hg=>?_
 have KX:=hY w _ Y
 obtain ⟨fd,hb,hF⟩:=F w mg fa _ KX G.T.g hmg
 exact aDJ KX G.T.g G.T.b G.T.builtins G.T.nolimit hg hobj hints (et hlen hn2) hr hF hb (fun H hO hS=>hsp w H a ns hlen hO hS) fun H e s'=>hCX w H s₁ e s'
def bR (s:Stmt):Arguments:=match s with
 | .FunctionDef _ a _ _ _ _ _ _ _ _=>a
 | _=>{ posonlyargs:=[],args:=[],vararg:=none,kwonlyargs:=[],kw_defaults:=[],kwarg:=none,defaults:=[] }
def bL (s:Stmt):List Stmt:=match s with
 | .FunctionDef _ _ b _ _ _ _ _ _ _=>b
 | _=>[]
def aO (s:Stmt):Scope:=match s with
 | .FunctionDef _ _ _ _ _ _ sc _ _ _=>sc
 | _=>{ kind := .function,names:=[],isGenerator:=false,isCoroutine:=false }
abbrev CX0:CXT:=fun _ _ _ _ _ _=>False
abbrev E0:XK:=fun _ _ _=>False
theorem aIG {X:Cx}:mG CX0 X E0:=fun _ _ _ _ _ _ _ h=>h.elim
structure Fun (K:ae)(x qual:Str)(st:Stmt)(f:Addr)(fd:FuncData):Prop where
 ex:∃ (oc:Value) (od:Option Addr) (kV doc pm:Value) (an:Option Addr) (cdv ct:Value) (osl:Array (Option Value)),
  fd=du x qual (bR st) (bL st) (aO st) .none kV doc pm an cdv ct/\K.lookup f=some ⟨oc,od, .func fd,osl⟩/\di K cdv qual=true
 kp:da K (.ref f)=true
section
variable {P:Program}{w:World}{K:ae}{mg:Str->Option Value}{base:Heap}
theorem Fun.ok {x qual:Str}{st:Stmt}{f:Addr}{fd:FuncData}{N ps:List Str}{k:Nat}{sp:Sp}(F:Fun K x qual st f fd)(S:bV N ps (aO st))(len:∀ vs H Q E,sp vs H Q E->vs.length=ps.length)
  (hbody:∀ (cdv:Value) (A:Around) (outer:List Env) (s:Shared) (H:Hp) (vs:List V) (Q:VK) (E:XK),Room k (A.deeper (Aw qual (aO st) s.heap.objs.size f cdv))->sp vs H Q E ->
   ∃ t,PSs (zZ CX0 P w K mg base N qual (aO st) f cdv A outer s H E).nox (bL st) t/\t { nx:=fun _ H'=>Q .non H',rt:=Q } (bW N vs) H):FnOk P w K mg base CX0 (k+1) f fd ps sp:=by
 obtain ⟨oc,od,kV,doc,pm,an,cdv,ct,osl,rfl,lk,hcd⟩:=F.ex
 refine aGc lk hcd S len fun A outer s H vs Q E hr hsp=>?_
 obtain ⟨t,h,q⟩:=hbody cdv A outer s H vs Q E hr hsp
 exact ⟨t,h.nox,q⟩
theorem Fun.binds {x qual:Str}{st:Stmt}{f:Addr}{fd:FuncData}{ps:List Str}(F:Fun K x qual st f fd)
  (h:∀ (kV doc pm:Value) (an:Option Addr) (cdv ct:Value) (us:List Value),us.length=ps.length->bindArgs (du x qual (bR st) (bL st) (aO st) .none kV doc pm an cdv ct) ⟨us,[]⟩=pure (ps.zip us)):Binds K fd ps []:=by
 obtain ⟨oc,od,kV,doc,pm,an,cdv,ct,osl,rfl,lk,hcd⟩:=F.ex
 exact .all (h kV doc pm an cdv ct)
theorem cP {x qual:Str}{st:Stmt}{f:Addr}{oc:Value}{od an:Option Addr}{osl:Array (Option Value)}{kV doc pm cdv ct:Value}(l:K.lookup f=some ⟨oc,od, .func (du x qual (bR st) (bL st) (aO st) .none kV doc pm an cdv ct),osl⟩)
  (c:di K cdv qual=true) (k:da K (.ref f)=true):Fun K x qual st f (du x qual (bR st) (bL st) (aO st) .none kV doc pm an cdv ct):=⟨⟨oc,od,kV,doc,pm,an,cdv,ct,osl,rfl,l,c⟩,k⟩
end
theorem uQ {A:Around}{k:Nat}(hr:Room k A):A.units+1<cLine:=bc (Nat.add_le_add_left (by decide:1<=64) _) hr.units
section
variable {X:Cx}
theorem pv (i:Nat){x:Str}{pos:Pos}(hN:X.N[i]?=some x:=by rfl)(hv:Vis X.env.scope x:=by first | exact Or.inl rfl | exact Or.inr (Or.inl rfl) | exact Or.inr (Or.inr rfl))(hd:(x == ("__debug__" : Str))=false:=by decide)
  (hcd:(x == ("__classdict__" : Str))=false:=by decide):PE X (.Name x pos) (aE i):=aGk hN hv hd hcd
end
theorem aJD {A B:Prop}(h:B):if false=true then A else B:=by
 rw [if_neg bu]
 exact h
theorem aCP {c A B:Prop}[Decidable c](h1:c->A)(h2:¬ c->B):if c then A else B:=by
 by_cases h:c
 ·rw [if_pos h]
  exact h1 h
 ·rw [if_neg h]
  exact h2 h
def Same (H H':Hp):Prop:=∀ b o,H b=some o->H' b=some o
theorem Same.refl (H:Hp):Same H H:=fun _ _ h=>h
theorem Same.trans {H H1 H2:Hp}(a:Same H H1)(b:Same H1 H2):Same H H2:=fun c o h=>b c o (a c o h)
theorem Same.free {H H':Hp}(e:Same H H'){l:Addr}(h:H' l=Option.none):H l=Option.none:=by
 cases q:H l with
 | none=>rfl
 | some o=>
  rw [e l o q] at h
  cases h
theorem Same.seq {K:ae}{H H':Hp}{a:Addr}{xs:List V}(e:Same H H')(h:SqL K H a xs):SqL K H' a xs:=by
 rcases h with (h | ⟨o,h⟩) | h
 ·exact .inl (.inl (e _ _ h))
 ·exact .inl (.inr ⟨o,e _ _ h⟩)
 ·exact .inr h
section
variable {κ:Type}[DecidableEq κ]
def oQ (kvs:List (κ × V)) (k:κ):Option V:=(kvs.find? fun kv=>decide (kv.1=k)).map (·.2)
def sO (kvs:List (κ × V)) (k:κ) (v:V):List (κ × V):=
 if (kvs.any fun kv=>decide (kv.1=k))=true then kvs.map (fun kv=>if kv.1=k then (kv.1,v) else kv) else kvs++[(k,v)]
theorem dW {p:κ × V}{r:List (κ × V)}{k:κ}(e:p.1=k):oQ (p :: r) k=some p.2:=by simp [oQ,n6,e]
theorem dU {p:κ × V}{r:List (κ × V)}{k:κ}(e:¬ p.1=k):oQ (p :: r) k=oQ r k:=by simp [oQ,n6,e]
theorem oT (k:κ):∀ kvs:List (κ × V),(kvs.any fun kv=>decide (kv.1=k))=(oQ kvs k).isSome
 | []=>rfl
 | p :: r=>by
  rw [ue]
  by_cases e:p.1=k
  ·simp only [dW e,decide_eq_true e,Bool.true_or,Option.isSome_some]
  ·rw [dU e,decide_eq_false e,Bool.false_or];exact oT k r
theorem yQ (k j:κ)(y:V):∀ kvs:List (κ × V),oQ (kvs.map fun kv=>if kv.1=k then (kv.1,y) else kv) j=(oQ kvs j).map fun x=>if j=k then y else x
 | []=>rfl
 | p :: r=>by
  have ih:=yQ k j y r
  rw [df]
  by_cases h:p.1=k
  ·rw [if_pos h]
   by_cases e:p.1=j
   ·rw [dW (p:=(p.1,y)) e,dW e,uu,if_pos (e.symm.trans h)]
   ·rw [dU (p:=(p.1,y)) e,dU e,ih]
  ·rw [if_neg h]
   by_cases e:p.1=j
   ·rw [dW (p:=p) e,dW e,uu,if_neg (fun z=>h (e.trans z))]
   ·rw [dU (p:=p) e,dU e,ih]
theorem vA (k j:κ)(y:V):∀ kvs:List (κ × V),oQ kvs k=none->oQ (kvs++[(k,y)]) j=if j=k then some y else oQ kvs j
 | [],_=>by
  by_cases e:k=j
  ·rw [if_pos e.symm];exact dW (p:=(k,y)) e
  ·rw [if_neg (fun z=>e z.symm)];exact dU (p:=(k,y)) e
 | p :: r,hn=>by
  rw [List.cons_append]
  have hk:¬ p.1=k:=fun z=>by rw [dW z] at hn;cases hn
  rw [dU hk] at hn
  have ih:=vA k j y r hn
  by_cases e:p.1=j
  ·rw [dW e,dW e,if_neg (fun z=>hk (e.trans z))]
  ·rw [dU e,dU e,ih]
theorem aDO (kvs:List (κ × V))(k j:κ)(y:V):oQ (sO kvs k y) j=if j=k then some y else oQ kvs j:=by
 unfold sO
 by_cases a:(kvs.any fun kv=>decide (kv.1=k))=true
 ·rw [if_pos a,yQ]
  rw [oT] at a
  by_cases e:j=k
  ·obtain ⟨x,hx⟩:=gc.mp a
   rw [if_pos e,e,hx,uu,if_pos rfl]
  ·rw [if_neg e]
   cases oQ kvs j with
   | none=>rfl
   | some x=>rw [uu,if_neg e]
 ·rw [if_neg a]
  refine vA k j y kvs ?_
  rw [oT] at a
  cases q:oQ kvs k with
  | none=>rfl
  | some x=>rw [q] at a;exact (a rfl).elim
theorem iK (kvs:List (κ × V))(k:κ)(v:V):(sO kvs k v).length<=kvs.length+1:=by
 unfold sO
 split
 ·rw [af];omega
 ·rw [au,cw,n9];omega
theorem RelO.isSome_eq {o:Option V}{u:Option Value}(r:RelO o u):o.isSome=u.isSome:=by
 cases o with
 | none=>cases u with
  | none=>rfl
  | some _=>exact (show False from r).elim
 | some _=>cases u with
  | none=>exact (show False from r).elim
  | some _=>rfl
theorem RelO.getD {o:Option V}{u:Option Value}{d:V}{d':Value}(r:RelO o u)(rd:RelV d d'):RelV (o.getD d) (u.getD d'):=by
 cases o with
 | none=>cases u with
  | none=>exact rd
  | some _=>exact (show False from r).elim
 | some _=>cases u with
  | none=>exact (show False from r).elim
  | some _=>exact r
theorem KV.val {kvs:List (κ × V)}{vs:List (κ × Value)}(r:KV kvs vs)(k:κ):RelO (oQ kvs k) (AL vs k):=by
 unfold KV at r
 induction r with
 | nil=>exact True.intro
 | @cons p q ps qs h t ih=>
  obtain ⟨h1,h2⟩:=h
  by_cases e:p.1=k
  ·have e':q.1=k:=h1.symm.trans e
   have b:AL (q :: qs) k=some q.2:=by simp [AL,n6,e']
   rw [dW e,b];exact h2
  ·have e':¬ q.1=k:=fun z=>e (h1.trans z)
   have b:AL (q :: qs) k=AL qs k:=by simp [AL,n6,e']
   rw [dU e,b];exact ih
theorem KV.any {kvs:List (κ × V)}{vs:List (κ × Value)}(r:KV kvs vs)(k:κ):(kvs.any fun kv=>decide (kv.1=k))=vs.any fun kv=>decide (kv.1=k):=by
 unfold KV at r
 induction r with
 | nil=>rfl
 | cons h t ih=>rw [ue,ue,ih,h.1]
theorem KV.repl {kvs:List (κ × V)}{vs:List (κ × Value)}(r:KV kvs vs)(k:κ){y:V}{u:Value}(ry:RelV y u) :
  KV (kvs.map fun kv=>if kv.1=k then (kv.1,y) else kv) (vs.map fun kv=>if kv.1=k then (kv.1,u) else kv):=by
 unfold KV at r ⊢
 induction r with
 | nil=>exact .nil
 | @cons p q ps qs h t ih=>
  rw [df,df]
  refine .cons ?_ ih
  obtain ⟨h1,h2⟩:=h
  by_cases e:p.1=k
  ·rw [if_pos e,if_pos (h1.symm.trans e)];exact ⟨h1,ry⟩
  ·rw [if_neg e,if_neg (fun z=>e (h1.trans z))];exact ⟨h1,h2⟩
theorem KV.put {kvs:List (κ × V)}{vs:List (κ × Value)}(r:KV kvs vs)(k:κ){y:V}{u:Value}(ry:RelV y u):KV (sO kvs k y) (stored vs k u):=by
 unfold sO stored
 rw [r.any k]
 by_cases e:(vs.any fun kv=>decide (kv.1=k))=true
 ·rw [if_pos e,if_pos e];exact r.repl k ry
 ·rw [if_neg e,if_neg e];exact Paired.snoc r ⟨rfl,ry⟩
theorem KV.length {kvs:List (κ × V)}{vs:List (κ × Value)}(r:KV kvs vs):kvs.length=vs.length:=w9 r
end
theorem aAt {P:Program}{w:World}{k:Key}{u:Value}(r:RelV (kV k) u):(dO P w).is k u=true:=by
 cases k with
 | inl i=>obtain ⟨t,e⟩:=(show ∃ t,u=Value.int i t from r);subst e;exact xN P w i t
 | inr x=>obtain ⟨t,e⟩:=(show ∃ t,u=Value.str x t from r);subst e;exact yP P w x t
theorem vQ {P:Program}{w:World}:∀ {ks:List Key} {us:List Value},Vals (ks.map kV) us->ItemsAre (dO P w) ks us
 | [],_,r=>by rw [sk] at r;cases r;exact .nil
 | k :: ks,_,r=>by
  rw [df] at r
  cases r with
  | cons h t=>exact .cons (aAt h) (vQ t)
abbrev KT (H:Hp):List (List Key × V)->List (List Key × Addr × Value)->Prop:=Paired fun p q=>p.1=q.1/\H q.2.1=some (.tup (p.1.map kV))/\RelV p.2 q.2.2
theorem KT.val {H:Hp}{kvs:List (List Key × V)}{xs:List (List Key × Addr × Value)}(r:KT H kvs xs)(k:List Key):RelO (oQ kvs k) ((atKey xs k).map (·.2)):=by
 induction r with
 | nil=>exact True.intro
 | @cons p q ps qs h t ih=>
  obtain ⟨h1,_,h2⟩:=h
  by_cases e:p.1=k
  ·have e':q.1=k:=h1.symm.trans e
   have b:atKey (q :: qs) k=some q.2:=by simp [atKey,n6,e']
   rw [dW e,b];exact h2
  ·have e':¬ q.1=k:=fun z=>e (h1.trans z)
   have b:atKey (q :: qs) k=atKey qs k:=by simp [atKey,n6,e']
   rw [dU e,b];exact ih
theorem KT.repl {H:Hp}{kvs:List (List Key × V)}{xs:List (List Key × Addr × Value)}(r:KT H kvs xs)(k:List Key){y:V}{u:Value}(ry:RelV y u) :
  KT H (kvs.map fun kv=>if kv.1=k then (kv.1,y) else kv) (xs.map (putAt k u)):=by
 induction r with
 | nil=>exact .nil
 | @cons p q ps qs h t ih=>
  rw [df,df]
  refine .cons ?_ ih
  obtain ⟨h1,h2,h3⟩:=h
  unfold putAt
  by_cases e:p.1=k
  ·rw [if_pos e,if_pos (h1.symm.trans e)];exact ⟨h1,h2,ry⟩
  ·rw [if_neg e,if_neg (fun z=>e (h1.trans z))];exact ⟨h1,h2,h3⟩
theorem KT.put {H:Hp}{kvs:List (List Key × V)}{xs:List (List Key × Addr × Value)}(r:KT H kvs xs)(k:List Key){b:Addr}{y:V}{u:Value}(hb:H b=some (.tup (k.map kV)))(ry:RelV y u) :
  KT H (sO kvs k y) (storedH xs k b u):=by
 have e:(kvs.any fun kv=>decide (kv.1=k))=(atKey xs k).isSome:=by
  rw [oT,(r.val k).isSome_eq,wm]
 unfold sO storedH
 rw [e]
 by_cases q:(atKey xs k).isSome=true
 ·rw [if_pos q,if_pos q];exact r.repl k ry
 ·rw [if_neg q,if_neg q];exact Paired.snoc r ⟨rfl,hb,ry⟩
theorem KT.keeps {H H':Hp}{kvs:List (List Key × V)}{xs:List (List Key × Addr × Value)}(r:KT H kvs xs)(ht:∀ b ys,H b=some (.tup ys)->H' b=some (.tup ys)):KT H' kvs xs:=
 Paired.mapP r fun _ _ z=>⟨z.1,ht _ _ z.2.1,z.2.2⟩
section
variable {P:Program}{w:World}{H:Hp}{h:Heap}{a:Addr}
theorem aHd {u:HO}(ok:HOk P w H h)(e:Rd H a u):ObjOk P w H h a u:=e.ok ok
theorem aAr {kvs:List (Key × V)}(ok:HOk P w H h)(e:Rd H a (.dK kvs)):kvs.length<=ba/\(a == j5)=false/\∃ vs,KV kvs vs/\h.DictOf (dO P w) a vs:=
 show ObjOk P w H h a (.dK kvs) from aHd ok e
theorem aHg {kvs:List (Key × V)}(ok:HOk P w H h)(e:H a=some (.dK kvs)):kvs.length<=ba/\(a == j5)=false/\∃ vs,KV kvs vs/\h.DictOf (dO P w) a vs:=aAr ok (.inl e)
theorem wJ {ks:List Key}(ok:HOk P w H h)(e:H a=some (.tup (ks.map kV))):(Au (dO P w)).is h ks a:=by
 obtain ⟨_,its,r,o,h1,h2,⟨n,h3⟩,_⟩:=(show ObjOk P w H h a (.tup (ks.map kV)) from ok a _ e)
 exact ⟨o,its.toArray,n,h1,h2,h3,by simpa using vQ r⟩
theorem aCv {kvs:List (List Key × V)}(ok:HOk P w H h)(e:Rd H a (.dT kvs)):kvs.length<=ba/\(a == j5)=false /\
  ∃ xs,KT H kvs xs/\h.DictOfH (Au (dO P w)) a xs:=by
 obtain ⟨z,y,xs,r,o,es,ep,h1,h2,h3,h4,h5⟩:=(show ObjOk P w H h a (.dT kvs) from aHd ok e)
 refine ⟨z,y,xs,r,o,es,ep,h1,h2,h3,h4,fun x hx=>?_,h5⟩
 have all:∀ {l:List (List Key × V)} {m:List (List Key × Addr × Value)},KT H l m->∀ x∈m,(Au (dO P w)).is h x.1 x.2.1:=by
  intro l m q
  induction q with
  | nil=>intro x hx;exact nomatch hx
  | @cons p q ps qs hq t ih=>
   intro x hx
   rcases bj.mp hx with e | hx
   ·subst e
    exact wJ ok (by rw [<- hq.1];exact hq.2.1)
   ·exact ih x hx
 exact all r x hx
theorem aII {kvs:List (List Key × V)}(ok:HOk P w H h)(e:H a=some (.dT kvs)):kvs.length<=ba/\(a == j5)=false /\
  ∃ xs,KT H kvs xs/\h.DictOfH (Au (dO P w)) a xs:=aCv ok (.inl e)
end
def DGet (H:Hp) (a:Addr) (y:V) (r:Option V):Prop:=
 (∃ kvs k,Rd H a (.dK kvs)/\y=kV k/\r=oQ kvs k)\/∃ kvs k b,Rd H a (.dT kvs)/\y = .ref b/\H b=some (.tup (k.map kV))/\r=oQ kvs k
def DPut (H:Hp) (a:Addr) (y v:V) (H':Hp):Prop:=
 (∃ kvs k,H a=some (.dK kvs)/\y=kV k/\kvs.length<ba/\H'=upd H a (.dK (sO kvs k v))) \/
 ∃ kvs k b,H a=some (.dT kvs)/\y = .ref b/\H b=some (.tup (k.map kV))/\kvs.length<ba/\H'=upd H a (.dT (sO kvs k v))
theorem DGet.k {H:Hp}{a:Addr}{kvs:List (Key × V)}{k:Key}(e:H a=some (.dK kvs)):DGet H a (kV k) (oQ kvs k) := .inl ⟨kvs,k, .inl e,rfl,rfl⟩
theorem DGet.t {H:Hp}{a b:Addr}{kvs:List (List Key × V)}{k:List Key}(e:H a=some (.dT kvs))(eb:H b=some (.tup (k.map kV))):DGet H a (.ref b) (oQ kvs k) := .inr ⟨kvs,k,b, .inl e,rfl,eb,rfl⟩
theorem DPut.k {H:Hp}{a:Addr}{kvs:List (Key × V)}{k:Key}{v:V}(e:H a=some (.dK kvs))(hl:kvs.length<ba):DPut H a (kV k) v (upd H a (.dK (sO kvs k v))) := .inl ⟨kvs,k,e,rfl,hl,rfl⟩
theorem DPut.t {H:Hp}{a b:Addr}{kvs:List (List Key × V)}{k:List Key}{v:V}(e:H a=some (.dT kvs))(eb:H b=some (.tup (k.map kV)))(hl:kvs.length<ba) :
  DPut H a (.ref b) v (upd H a (.dT (sO kvs k v))) := .inr ⟨kvs,k,b,e,rfl,eb,hl,rfl⟩
section
variable {X:Cx}{pins:List (Addr × Obj)}{σ:St}{H:Hp}{s:Shared}{a:Addr}{y v:V}{u r:Value}{o:Option V}{A:Around}{E:Value->Shared->Prop}
theorem Inv.big (I:Inv X pins σ H s):j5<s.heap.objs.size:=by
 have h:bg<s.heap.objs.size:=(I.mod.glob.keeps I.bk).lt
 exact Nat.lt_trans (by decide) h
theorem aCh {Q:Value->Shared->Prop}(hu:A.units+1<cLine)(I:Inv X pins σ H s)(g:DGet H a y (some v))(ry:RelV y u)(h:∀ w' s',Inv X pins σ H s'->RelV v w'->Q w' s') :
  wpAny (model X.prog X.w) A (xf (.ref a) u) Q E s:=by
 rcases g with ⟨kvs,k,e,ey,l⟩ | ⟨kvs,k,b,e,ey,eb,l⟩
 ·subst ey
  obtain ⟨z,hd,vs,rel,dd⟩:=aAr I.hok e
  obtain ⟨w',hw,rw'⟩:=RelO.some_of (v:=v) (o:=AL vs k) (by rw [l];exact rel.val k)
  exact wpAny_getItem_of (aAt ry) dd.mapOf hw (h w' _ (I.tok _) rw')
 ·subst ey
  cases (show u=Value.ref b from ry)
  obtain ⟨z,hd,xs,rel,dd⟩:=aCv I.hok e
  obtain ⟨w',hw,rw'⟩:=RelO.some_of (v:=v) (o:=(atKey xs k).map (·.2)) (by rw [l];exact rel.val k)
  obtain ⟨p,hp,hp2⟩:=i9.mp hw
  refine wpAny_getItem_heap (qp hu) (wJ I.hok eb) dd hp ?_
  rw [hp2]
  exact h w' _ (I.tok _) rw'
theorem aJz {Q:Value->Shared->Prop}(hu:A.units+1<cLine)(I:Inv X pins σ H s)(g:DGet H a y o)(ry:RelV y u)(h:∀ s',Inv X pins σ H s'->Q (.bool o.isSome) s') :
  wpAny (model X.prog X.w) A (i7 .In u (.ref a)) Q E s:=by
 rcases g with ⟨kvs,k,e,ey,l⟩ | ⟨kvs,k,b,e,ey,eb,l⟩
 ·subst ey
  obtain ⟨z,hd,vs,rel,dd⟩:=aAr I.hok e
  refine wpAny_in_of (aAt ry) hd dd.mapOf ?_
  rw [<- (rel.val k).isSome_eq,<- l]
  exact h _ (I.tok _)
 ·subst ey
  cases (show u=Value.ref b from ry)
  obtain ⟨z,hd,xs,rel,dd⟩:=aCv I.hok e
  refine wpAny_in_heap (qp hu) (wJ I.hok eb) hd dd ?_
  have q:=(rel.val k).isSome_eq
  rw [wm] at q
  rw [<- q,<- l]
  exact h _ (I.tok _)
theorem aEW {Q:Value->Shared->Prop}(hu:A.units+1<cLine)(I:Inv X pins σ H s)(g:DGet H a y o)(ry:RelV y u)(h:∀ s',Inv X pins σ H s'->Q (.bool (!o.isSome)) s') :
  wpAny (model X.prog X.w) A (i7 .NotIn u (.ref a)) Q E s:=by
 rcases g with ⟨kvs,k,e,ey,l⟩ | ⟨kvs,k,b,e,ey,eb,l⟩
 ·subst ey
  obtain ⟨z,hd,vs,rel,dd⟩:=aAr I.hok e
  refine wpAny_notIn_of (aAt ry) hd dd.mapOf ?_
  rw [<- (rel.val k).isSome_eq,<- l]
  exact h _ (I.tok _)
 ·subst ey
  cases (show u=Value.ref b from ry)
  obtain ⟨z,hd,xs,rel,dd⟩:=aCv I.hok e
  refine wpAny_notIn_heap (qp hu) (wJ I.hok eb) hd dd ?_
  have q:=(rel.val k).isSome_eq
  rw [wm] at q
  rw [<- q,<- l]
  exact h _ (I.tok _)
theorem xY {h':Heap}{t':Nat}{ob:HO}(I:Inv X pins σ H s)(mu:Mut (H a))(hs:iu a s.heap h')(he:∃ q,h'.get? a=some q)(new:ObjOk X.prog X.w (upd H a ob) h' a ob) :
  Inv X pins σ (upd H a ob) { s with heap:=h',toks:=t' }:=
 I.write (x:=a) (e:=a) mu (.inl rfl) (fun b q hb z=>(hs.2 b hb).trans z) he new
theorem aEI {P:Program}{w:World}{H':Hp}{h':Heap}{kvs:List (Key × V)}{vs:List (Key × Value)}(z:kvs.length<=ba)(hd:(a == j5)=false)(rel:KV kvs vs)(dd:h'.DictOf (dO P w) a vs) :
  ObjOk P w H' h' a (.dK kvs):=⟨z,hd,vs,rel,dd⟩
theorem aBg {H':Hp}{Q:Unit->Shared->Prop}(hu:A.units+1<cLine)(I:Inv X pins σ H s)(g:DPut H a y v H')(ry:RelV y u)(rv:RelV v r)(h:∀ s',Inv X pins σ H' s'->Q () s') :
  wpAny (model X.prog X.w) A (setItem (.ref a) u r) Q E s:=by
 rcases g with ⟨kvs,k,e,ey,l,eH⟩ | ⟨kvs,k,b,e,ey,eb,l,eH⟩
 ·subst ey eH
  obtain ⟨z,hd,vs,rel,dd⟩:=aHg I.hok e
  have hz:vs.length<=ba:=by rw [<- rel.length];exact z
  have hl:(sO kvs k v).length<=ba:=by have:=iK kvs k v;omega
  refine wpAny_setItem_pairs (hsz:=hz) (aAt ry) dd fun h' dd' hs=>h _ ?_
  have he:∃ q,h'.get? a=some q:=let ⟨q,_,_,hq,_⟩:=dd';⟨q,hq⟩
  exact xY I (by rw [e];exact True.intro) hs he (aEI hl hd (rel.put k rv) dd')
 ·subst ey eH
  cases (show u=Value.ref b from ry)
  obtain ⟨z,hd,xs,rel,dd⟩:=aII I.hok e
  have hz:xs.length<=ba:=by rw [<- w9 rel];exact z
  have hl:(sO kvs k v).length<=ba:=by have:=iK kvs k v;omega
  refine wpAny_setItem_heap (hsz:=hz) (qp hu) (wJ I.hok eb) dd fun h' dd' hs=>h _ ?_
  obtain ⟨q,es,ep,hq,h2,h3,h4,_,h5⟩:=dd'
  refine xY I (by rw [e];exact True.intro) hs ⟨q,hq⟩ ⟨hl,hd,_,(rel.put k eb rv).keeps fun c ys ec=>?_,q,es,ep,hq,h2,h3,h4,h5⟩
  rw [aX (ne_of ec e (fun z=>nomatch z))]
  exact ec
end
section
variable {X:Cx}{pins:List (Addr × Obj)}{σ:St}{H:Hp}{s:Shared}{a:Addr}{kvs:List (Key × V)}{k:Key}{u:Value}{A:Around}{E:Value->Shared->Prop}
theorem aIu {Q:Value->Shared->Prop}(I:Inv X pins σ H s)(e:Rd H a (.dK kvs))(h:∀ t s',Inv X pins σ H s'->Q (.int kvs.length t) s'):wpAny (model X.prog X.w) A (call (.builtin "len") [.ref a]) Q E s:=by
 obtain ⟨z,hd,vs,rel,dd⟩:=aAr I.hok e
 refine call_len_dict hd dd (by rw [<- rel.length];rw [j9] at z;omega) ?_
 rw [<- rel.length]
 exact h _ _ (I.tok _)
end
def aJq (i:Expr):Prop:=∀ ov iv,Ad i false ov iv=operate [ov,iv] (xf ov iv)
theorem aFv {prog:Program}{w:World}{A:Around}{E:Value->Shared->Prop}{s:Shared}{env:Env}{value slice:Expr}{pos:Pos}{T id:String}{Q:Value->Shared->Prop}
  (hl:typeLookup (.type T) "__getitem__" = pure (some (.builtin id))) (hs:aJq slice)
  (h:wpAny (model prog w) A (eval value env) (fun o s₁=>wpAny (model prog w) A (eval slice env) (fun i s₂=>s₂.TypeIs o T/\wpAny (model prog w) A (xf o i) Q E s₂) E s₁) E s) :
  wpAny (model prog w) A (eval (.Subscript value slice pos) env) Q E s:=by
 refine Subscript_ (iq h (fun o s₁ h₁=>iq h₁ (fun i s₂ h₂=>?_) fun _ _ x=>x) fun _ _ x=>x)
 obtain ⟨hT,h₂⟩:=h₂
 unfold Az
 refine aa ?_
 rw [getitemInPython_of_ne hT.not_modules]
 refine aa (mf hT hl ?_)
 have fin:wpAny (model prog w) A (Ad slice false o i) (fun r s₃=>wpAny (model prog w) A (letTemporaryGo value o r >>= fun _=>pure r) Q E s₃) E s₂:=by
  rw [hs o i]
  exact wpAny_operating (iq h₂ (fun r s₃ h₃=>aa (wpAny_letTemporaryGo (ak h₃))) fun _ _ x=>x)
 first
  | exact ak (aa fin)
  | exact aa (ak (aa fin))
  | exact aa fin
theorem yB {X:Cx}{pins:List (Addr × Obj)}{σ:St}{H:Hp}{s:Shared}{a:Addr}{y:V}{o:Option V}(I:Inv X pins σ H s)(g:DGet H a y o):s.TypeIs (.ref a) "dict":=by
 rcases g with ⟨kvs,k,e,_,_⟩ | ⟨kvs,k,b,e,_,_,_⟩
 ·obtain ⟨_,_,vs,_,dd⟩:=aAr I.hok e
  exact dd.typeIs
 ·obtain ⟨_,_,xs,_,dd⟩:=aCv I.hok e
  exact dd.typeIs
def aEN (td ty:TE):TE:=fun σ H Q=>td σ H fun x H1=>ty σ H1 fun y H2=>∃ a v,x = .ref a/\DGet H2 a y (some v)/\Q v H2
def aHW (ty td:TE):TE:=fun σ H Q=>ty σ H fun y H1=>td σ H1 fun x H2=>∃ a o,x = .ref a/\DGet H2 a y o/\Q (.bl o.isSome) H2
def uO (ty td:TE):TE:=fun σ H Q=>ty σ H fun y H1=>td σ H1 fun x H2=>∃ a o,x = .ref a/\DGet H2 a y o/\Q (.bl (!o.isSome)) H2
def aBw (td ty tv:TE):TS:=fun D σ H=>tv σ H fun v H1=>td σ H1 fun x H2=>ty σ H2 fun y H3=>∃ a H4,x = .ref a/\DPut H3 a y v H4/\D.nx σ H4
section
variable {X:Cx}{o i e value:Expr}{pos pos' tpos:Pos}{td ty tv:TE}
theorem aBK (hu:X.A.units+1<cLine)(ho:PE X o td)(hi:PE X i ty)(hs:aJq i):PE X (.Subscript o i pos) (aEN td ty):=by
 intro pins s σ H Q I h
 refine aFv PySem.F.slot_dict_getitem.lookup hs (thn (ho pins s σ H _ I h) fun u s1 ⟨x,H1,I1,rx,q1⟩=>thn (hi pins s1 σ H1 _ I1 q1) fun iv s2 ⟨y,H2,I2,ry,a,v,ex,g,q2⟩=>?_)
 subst ex
 obtain rfl:u=Value.ref a:=rx
 exact ⟨yB I2 g,aCh hu I2 g ry fun w' s3 I3 rw'=>⟨v,H2,I3,rw',q2⟩⟩
theorem aED (hu:X.A.units+1<cLine)(hi:PE X i ty)(ho:PE X o td):PC X .In i o (aHW ty td):=by
 intro pins s σ H Q I h
 refine thn (hi pins s σ H _ I h) fun iv s1 ⟨y,H1,I1,ry,q1⟩=>thn (ho pins s1 σ H1 _ I1 q1) fun u s2 ⟨x,H2,I2,rx,a,ov,ex,g,q2⟩=>?_
 subst ex
 obtain rfl:u=Value.ref a:=rx
 exact aJz hu I2 g ry fun s3 I3=>⟨.bl ov.isSome,H2,I3,rfl,q2⟩
theorem wT (hu:X.A.units+1<cLine)(hi:PE X i ty)(ho:PE X o td):PC X .NotIn i o (uO ty td):=by
 intro pins s σ H Q I h
 refine thn (hi pins s σ H _ I h) fun iv s1 ⟨y,H1,I1,ry,q1⟩=>thn (ho pins s1 σ H1 _ I1 q1) fun u s2 ⟨x,H2,I2,rx,a,ov,ex,g,q2⟩=>?_
 subst ex
 obtain rfl:u=Value.ref a:=rx
 exact aEW hu I2 g ry fun s3 I3=>⟨.bl (!ov.isSome),H2,I3,rfl,q2⟩
theorem yE (hu:X.A.units+1<cLine)(ho:PE X o td)(hi:PE X i ty)(hv:PE X value tv)(hs:A8 value (some (.Subscript o i pos')) pos.line X.env=pure false) :
  PS X (.Assign [.Subscript o i pos'] value pos) (aBw td ty tv):=by
 intro pins s σ H D I h
 refine wpAny_Assign_Subscript (thn (hv pins s σ H _ I h) fun r s1 ⟨v,H1,I1,rv,q1⟩=>thn (ho pins s1 σ H1 _ I1 q1) fun u s2 ⟨x,H2,I2,rx,q2⟩=>thn (hi pins s2 σ H2 _ I2 q2) fun iv s3 ⟨y,H3,I3,ry,a,H4,ex,g,q3⟩=>?_) hs
 subst ex
 obtain rfl:u=Value.ref a:=rx
 exact aBg hu I3 g ry rv fun s4 I4=>⟨σ,H4,I4,q3⟩
end
theorem aEe {P:Program}{w:World}{H:Hp}(h:Heap)(hb:j5<h.objs.size):ObjOk P w H (h.push { cls := .type "dict",data := .dict #[] }) h.objs.size (.dK []):=
 ⟨bh _,beq_eq_false_iff_ne.mpr (jk (d0 hb)),[], .nil,Heap.DictOf.new h⟩
theorem aCS {P:Program}{w:World}{H:Hp}(h:Heap)(hb:j5<h.objs.size):ObjOk P w H (h.push { cls := .type "dict",data := .dict #[] }) h.objs.size (.dT []):=
 ⟨bh _,beq_eq_false_iff_ne.mpr (jk (d0 hb)),[], .nil,_,#[],0,bp _ rfl,⟨rfl,rfl,rfl⟩,rfl,rfl,rz⟩
def aEB:TE:=fun _ H Q=>∀ p,H p=none->Q (.ref p) (upd H p (.dT []))
section
variable {X:Cx}{pos:Pos}
theorem aEg:PE X (.Dict [] [] pos) aEB:=fun pins s σ H Q I h=>
 wpAny_Dict_empty ⟨.ref s.heap.objs.size,_,I.laid (a:=s.heap.objs.size) (o := .dT []) (t':=s.toks) (fun _ _ q=>ao _ q) (ay _) (aCS s.heap I.big),rfl,h _ (I.hok.fresh (ay _))⟩
end
def aCl:List (TE × TE)->St->Hp->(List (V × V)->Hp->Prop)->Prop
 | [],_,H,Q=>Q [] H
 | (tk,tv) :: r,σ,H,Q=>tk σ H fun x H1=>tv σ H1 fun y H2=>aCl r σ H2 fun ps H3=>Q ((x,y) :: ps) H3
abbrev VV:List (V × V)->List (Value × Value)->Prop:=Paired fun p q=>RelV p.1 q.1/\RelV p.2 q.2
def PPs (X:Cx) (pos:Pos) (keys:List (Option Expr)) (values:List Expr) (trs:List (TE × TE)):Prop:=
 ∀ (pins:List (Addr × Obj)) (s:Shared) (σ:St) (H:Hp) (Q:List (V × V)->Hp->Prop),Inv X pins σ H s->aCl trs σ H Q ->
  wpAny (model X.prog X.w) X.A (evalPairs (pairTrees keys values X.env pos)) (fun vs s'=>∃ ps H',Inv X pins σ H' s'/\VV ps vs/\Q ps H') X.xe s
theorem aFh {X:Cx}{pos:Pos}:PPs X pos [] [] []:=fun pins s σ H Q I h=>pairTrees_nil_walk ⟨[],H,I, .nil,h⟩
theorem aEh {X:Cx}{pos:Pos}{k v:Expr}{ks:List (Option Expr)}{vs:List Expr}{tk tv:TE}{trs:List (TE × TE)}(hk:PE X k tk)(hv:PE X v tv)(hr:PPs X pos ks vs trs) :
  PPs X pos (some k :: ks) (v :: vs) ((tk,tv) :: trs):=fun pins s σ H Q I h=>
 pairTrees_cons_walk (thn (hk pins s σ H _ I h) fun u s1 ⟨x,H1,I1,rx,q1⟩=>thn (hv pins s1 σ H1 _ I1 q1) fun w2 s2 ⟨y,H2,I2,ry,q2⟩=>
  thn (hr pins s2 σ H2 _ I2 q2) fun ws s3 ⟨ps,H3,I3,rel,q3⟩=>⟨(x,y) :: ps,H3,I3, .cons ⟨rx,ry⟩ rel,q3⟩)
def xA (kvs more:List (Key × V)):List (Key × V):=more.foldl (fun acc kv=>sO acc kv.1 kv.2) kvs
theorem KV.merge:∀ {more:List (Key × V)} {rs:List (Key × Value)} {kvs:List (Key × V)} {vs:List (Key × Value)},KV more rs->KV kvs vs->KV (xA kvs more) (merged vs rs):=by
 intro more rs kvs vs r
 unfold KV at r
 induction r generalizing kvs vs with
 | nil=>intro q;exact q
 | @cons p q ps qs h t ih=>
  intro r0
  have e:KV (sO kvs p.1 p.2) (stored vs q.1 q.2):=by
   have:=r0.put p.1 h.2
   rw [<- h.1];exact this
  exact ih e
theorem mP:∀ (more kvs:List (Key × V)),(xA kvs more).length<=kvs.length+more.length
 | [],kvs=>by show kvs.length<=kvs.length+0;omega
 | p :: r,kvs=>by
  have h1:=mP r (sO kvs p.1 p.2)
  have h2:=iK kvs p.1 p.2
  show (xA (sO kvs p.1 p.2) r).length<=_
  rw [cw];omega
theorem sW {P:Program}{w:World}:∀ {kvs:List (Key × V)} {ws:List (Value × Value)},VV (kvs.map fun kv=>(kV kv.1,kv.2)) ws->∃ rs,Carries (dO P w) ws rs/\KV kvs rs
 | [],_,r=>by rw [sk] at r;cases r;exact ⟨[],True.intro, .nil⟩
 | p :: kvs,_,r=>by
  rw [df] at r
  cases r with
  | @cons a b as bs h t=>
   obtain ⟨rs,c,q⟩:=sW (P:=P) (w:=w) t
   obtain ⟨b1,b2⟩:=b
   exact ⟨(p.1,b2) :: rs,⟨aAt h.1,rfl,c⟩, .cons ⟨rfl,h.2⟩ q⟩
def aGM (trs:List (TE × TE)):TE:=fun σ H Q=>∀ p,H p=none->aCl trs σ (upd H p (.dK [])) fun ps H2=>H2 p=some (.dK [])/\∃ kvs:List (Key × V),ps=kvs.map (fun kv=>(kV kv.1,kv.2))/\kvs.length<=15/\Q (.ref p) (upd H2 p (.dK (xA [] kvs)))
theorem aET {X:Cx}{pos:Pos}{keys:List (Option Expr)}{values:List Expr}{trs:List (TE × TE)}(h:PPs X pos keys values trs)(hall:keys.all (·.isSome)=true)(hl:keys.length=values.length)(h0:keys≠[])
  (h15:keys.length<=15):PE X (.Dict keys values pos) (aGM trs):=by
 intro pins s σ H Q I q
 have hn:=I.hok.fresh (ay s.heap.objs.size)
 have I1:=I.laid (a:=s.heap.objs.size) (o := .dK []) (h':=s.heap.push { cls := .type "dict",data := .dict #[] }) (t':=s.toks) (fun _ _ q=>ao _ q) (ay _) (aEe s.heap I.big)
 refine wpAny_Dict_walk (knd:=dO X.prog X.w) hall hl h0 h15 (thn (h pins _ σ _ _ I1 (q _ hn)) fun ws s2 ⟨ps,H2,I2,rel,e,kvs,ep,lk,q2⟩=>?_)
 subst ep
 obtain ⟨rs,c,rk⟩:=sW (P:=X.prog) (w:=X.w) rel
 obtain ⟨z,hd,vs0,r0,dd⟩:=aHg I2.hok e
 cases r0
 refine ⟨rs,c,dd,fun h' dd' hs=>⟨.ref s.heap.objs.size,_,?_,rfl,q2⟩⟩
 have hz:(xA [] kvs).length<=ba:=by
  have h1:=mP kvs []
  rw [n9] at h1
  rw [j9];omega
 have he:∃ q,h'.get? s.heap.objs.size=some q:=let ⟨q,_,_,hq,_⟩:=dd';⟨q,hq⟩
 exact xY I2 (by rw [e];exact True.intro) hs he (aEI hz hd (rk.merge .nil) dd')
section
variable {X:Cx}{pins:List (Addr × Obj)}{σ:St}{H:Hp}{s:Shared}{a:Addr}{y d:V}{u r:Value}{o:Option V}{A:Around}{E:Value->Shared->Prop}
end
section
variable {X:Cx}{o e f:Expr}{apos cpos:Pos}{td ty tx:TE}
end
section
variable {X:Cx}{pins:List (Addr × Obj)}{σ:St}{H:Hp}{s:Shared}{a:Addr}{kvs:List (Key × V)}{A:Around}{E:Value->Shared->Prop}
end
section
variable {X:Cx}{pins:List (Addr × Obj)}{σ:St}{H:Hp}{s:Shared}{a:Addr}{y:V}{u:Value}{A:Around}{E:Value->Shared->Prop}
end
section
variable {X:Cx}
theorem aBJ:CallR X (.builtin "len") (fun xs H Q=>∃ a kvs,xs=[V.ref a]/\H a=some (.dK kvs)/\Q (.int kvs.length) H):=by
 intro pins s σ H xs us Q I r h
 obtain ⟨a,kvs,rfl,ha,q⟩:=h
 obtain ⟨u,rfl,ru⟩:=rN r
 cases ru
 exact aIu I (.inl ha) fun t s' I'=>⟨.int kvs.length,H,I',⟨t,rfl⟩,q⟩
end
section
variable {κ:Type}[DecidableEq κ]
theorem xQ:∀ {l:List κ} {k:κ},l.Nodup->¬ k∈l->(l++[k]).Nodup
 | [],k,_,_=>by simp
 | a :: r,k,h,hk=>by
  obtain ⟨h1,h2⟩:=gh.mp h
  show (a :: (r++[k])).Nodup
  refine gh.mpr ⟨fun m=>?_,xQ h2 fun m=>hk (bj.mpr (Or.inr m))⟩
  rcases de.mp m with q | q
  ·exact h1 q
  ·exact hk (bj.mpr (Or.inl (bq.mp q).symm))
end
def jE (J:It) (g:TG) (tb:TS):TS:=fun D σ H=>∃ W:Nat->Nat->St->Hp->Prop,(∃ m,W 0 m σ H)/\∀ i m σ H,W i m σ H ->
 (J.stop i H/\D.nx σ H)\/(J.go i H/\∃ N:St->Hp->Prop,(∀ σ' H',N σ' H'->∃ m',m'<m/\W (i+1) m' σ' H')/\∀ x H',J.yld i H x H'->g x σ H' fun σ2 H2=>tb { D with nx:=N,ct:=N,bk:=D.nx } σ2 H2)
def uY (elt:Expr) (gens:List Comprehension) (scope:Scope) (pos:Pos) (d:Nat) (acc:Value) (env:Env) (k:Sem Fin):Sem Fin:=
 match gens[d+1]? with
 | some g'=>eval g'.iter env >>= fun x=>Ab g'.iter.pos >>= fun _=>ou g'.iter env x >>= fun x=>xb [x] (AR x) >>= fun i=>
   runOwn (.compStart (.ListComp elt gens scope pos) (d+1) i acc env) env >>= fun _=>k
 | none=>(eval elt env >>= fun x=>call (.builtin "list.append") [acc,x] >>= fun _=>pure ()) >>= fun _=>k
theorem xG {elt target iter:Expr}{ifs:List Expr}{gens:List Comprehension}{scope:Scope}{pos:Pos}{d:Nat}(it acc:Value)(env:Env)(hg:gens[d]?=some ⟨target,iter,ifs,0⟩)
  (hn:∀ g',gens[d+1]?=some g'->g'.is_async=0) :
  compTurn (.ListComp elt gens scope pos) d it acc env=(Ab iter.pos >>= fun _=>wg it >>= fun r=>match r with
   | none=>pure (.done .next)
   | some v=>uo target it v >>= fun _=>AQ target env v >>= fun _=>
    (forIn ifs true fun c r=>if r=true then do let ok <- isTrue c env (eval c env);pure (ForInStep.yield ok) else pure (ForInStep.yield r)) >>= fun ok=>
     if ok=true then uY elt gens scope pos d acc env (again (.compLoop (.ListComp elt gens scope pos) d it acc env))
     else again (.compLoop (.ListComp elt gens scope pos) d it acc env)):=by
 unfold compTurn uY
 simp only [hg]
 cases h:gens[d+1]? with
 | none=>rfl
 | some g'=>
  obtain ⟨t',i',f',a'⟩:=g'
  have e:a'=0:=hn _ h
  subst e
  rfl
def kR:List TT->TS->TS
 | [],tb=>tb
 | c :: r,tb=>eD c (kR r tb) aK
inductive PTs (X:Cx):List Expr->List TT->Prop
 | nil:PTs X [] []
 | cons {c:Expr} {cs:List Expr} {t:TT} {ts:List TT}:PT X c t->PTs X cs ts->PTs X (c :: cs) (t :: ts)
section
variable {X:Cx}
theorem xM {cs:List Expr}{s:Shared}{Q:Bool->Shared->Prop}{E:Value->Shared->Prop}(h:Q false s) :
  wpAny (model X.prog X.w) X.A (forIn cs false fun c r=>if r=true then do let ok <- isTrue c X.env (eval c X.env);pure (ForInStep.yield ok) else pure (ForInStep.yield r)) Q E s:=by
 induction cs with
 | nil=>rw [nq];exact ak h
 | cons c cs ih=>
  rw [jr,if_neg bu]
  exact aa (ak ih)
theorem wA {tb:TS}{D:mJ}{pins:List (Addr × Obj)}:∀ {cs:List Expr} {ts:List TT},PTs X cs ts->∀ {s:Shared} {σ:St} {H:Hp},Inv X pins σ H s->kR ts tb D σ H ->
  wpAny (model X.prog X.w) X.A (forIn cs true fun c r=>if r=true then do let ok <- isTrue c X.env (eval c X.env);pure (ForInStep.yield ok) else pure (ForInStep.yield r))
   (fun ok s'=>∃ H',Inv X pins σ H' s'/\if ok=true then tb D σ H' else D.nx σ H') X.xe s
 | _,_, .nil,s,σ,H,I,h=>by rw [nq];exact ak ⟨H,I,by rw [if_pos rfl];exact h⟩
 | _,_, .cons (cs:=cs) hc hr,s,σ,H,I,h=>by
  rw [jr,if_pos rfl]
  refine aa (aa (thn (hc pins s σ H _ I h) fun b s1 ⟨H1,I1,q1⟩=>ak ?_))
  cases b with
  | true=>
   rw [if_pos rfl] at q1
   exact wA hr I1 q1
  | false=>
   rw [if_neg bu] at q1
   exact xM ⟨H1,I1,by rw [if_neg bu];exact q1⟩
end
def PB (X:Cx) (elt:Expr) (gens:List Comprehension) (scope:Scope) (pos:Pos) (d:Nat) (acc:Addr) (t:TS):Prop:=
 ∀ (pins:List (Addr × Obj)) (s:Shared) (σ:St) (H:Hp) (D:mJ) (k:Sem Fin) (Q:Fin->Shared->Prop) (E:Value->Shared->Prop),Inv X pins σ H s->t D σ H ->
  (∀ s' σ' H',Inv X pins σ' H' s'->D.nx σ' H'->wpAny (model X.prog X.w) X.A k Q E s')->wpAny (model X.prog X.w) X.A (uY elt gens scope pos d (.ref acc) X.env k) Q E s
def eX (te:TE) (acc:Addr):TS:=fun D σ H=>te σ H fun x H1=>∃ xs,H1 acc=some (.lst xs)/\xs.length<ba/\D.nx σ (upd H1 acc (.lst (xs++[x])))
section
variable {X:Cx}
theorem cS {elt:Expr}{gens:List Comprehension}{scope:Scope}{pos:Pos}{d:Nat}{acc:Addr}{te:TE}(hx:X.xe=fun _ _=>False)(he:PE X elt te)(hl:gens[d+1]?=none):PB X elt gens scope pos d acc (eX te acc):=by
 intro pins s σ H D k Q E I h hk
 unfold uY
 rw [hl]
 refine aa (aa (iq (he pins s σ H _ I h) (fun v s1 ⟨x,H1,I1,r1,xs,ha,hz,q⟩=>?_) fun _ _ z=>by rw [hx] at z;exact z.elim))
 have hm:=eN (X:=X) pins s1 σ H1 (.ref acc) [x] (.ref acc) [v] (fun v H'=>v = .non/\D.nx σ H') I1 rfl (.cons r1 .nil) ⟨acc,xs,x,rfl,rfl,ha,hz,rfl,q⟩
 refine aa (iq hm (fun _ s2 ⟨x2,H2,I2,r2,_,q2⟩=>ak (hk s2 σ H2 I2 q2)) fun _ _ z=>by rw [hx] at z;exact z.elim)
theorem wI {elt target iter:Expr}{ifs:List Expr}{gens:List Comprehension}{scope:Scope}{pos:Pos}{d:Nat}{acc it:Addr}{fp:List Addr}{tn:Nat->Heap->Prop}{J:It}{g:TG}{ts:List TT}{tb:TS}{D:mJ}{pins:List (Addr × Obj)}{s:Shared}{σ:St}{H:Hp}
  (hx:X.xe=fun _ _=>False) (hc:X.calm=true) (hgd:gens[d]?=some ⟨target,iter,ifs,0⟩) (hn:∀ g',gens[d+1]?=some g'->g'.is_async=0)
  (hg:PG X target g) (hts:PTs X ifs ts) (hb:PB X elt gens scope pos d acc tb)
  (T:aFu X.prog X.w X.K target J fp it tn) (I:Inv X pins σ H s) (st:tn 0 s.heap) (hf:∀ b∈fp,FpOk X pins H b) (h:jE J g (kR ts tb) D σ H) :
  uq (model X.prog X.w) X.A (.compStart (.ListComp elt gens scope pos) d (.ref it) (.ref acc) X.env) (fun r s'=>∃ f,r = .ok f/\∃ σ' H',Inv X pins σ' H' s'/\D.nx σ' H') s:=by
 have stat:∀ {H':Hp},(∀ b∈fp,H' b=none)->∀ b∈fp,FpOk X pins H' b:=fun hn b hb=>⟨hn b hb,(hf b hb).2⟩
 obtain ⟨W,⟨m0,w0⟩,turn⟩:=h
 have E0:∀ (e:Value) (s':Shared),X.xe e s'->notedBy (model X.prog X.w) X.A X.env (fun e s'=>∃ f,(Except.error e:zq) = .ok f/\∃ σ' H',Inv X pins σ' H' s'/\D.nx σ' H') e s':=fun e s' z=>by rw [hx] at z;exact z.elim
 have loop:uq (model X.prog X.w) X.A (.compLoop (.ListComp elt gens scope pos) d (.ref it) (.ref acc) X.env) (fun r s'=>∃ f,r = .ok f/\∃ σ' H',Inv X pins σ' H' s'/\D.nx σ' H') s:=by
  refine codeAny_loop rfl (fun n s'=>∃ i σ' H',Inv X pins σ' H' s'/\tn i s'.heap/\(∀ b∈fp,H' b=none)/\W i n σ' H') ?_ m0 ⟨0,σ,H,I,st,fun b hb=>(hf b hb).1,w0⟩
  rintro n s3 ⟨i,σ3,H3,I3,st3,fr3,w3⟩
  show wpAny _ X.A ((compTurn (.ListComp elt gens scope pos) d (.ref it) (.ref acc) X.env).onRaise (fun x=>do noteFrame x X.env;theTreesLotGoes x)) _ _ s3
  refine wpAny_noted ?_
  rw [xG _ _ _ hgd hn]
  refine aa (qk (aa ?_))
  rcases turn i n σ3 H3 w3 with ⟨stop,qn⟩ | ⟨go,N,hN,step⟩
  ·refine iq (T.done X rfl rfl rfl hc i pins s3 σ3 H3 (fun _ _=>False) I3 (stat fr3) st3 stop) (fun r s4 ⟨hr,I4⟩=>?_) (fun _ _ z=>z.elim)
   subst hr
   exact ak ⟨.next,rfl,σ3,H3,I4,qn⟩
  ·refine iq (T.item X rfl rfl rfl hc i pins s3 σ3 H3 (fun _ _=>False) I3 (stat fr3) st3 go) (fun r s4 ⟨u,hr,h4⟩=>?_) (fun _ _ z=>z.elim)
   subst hr
   refine aa (iq h4 (fun _ s5 ⟨x,H5,I5,r5,y5,st5,fr5⟩=>?_) (fun _ _ z=>z.elim))
   have I5':=I5.pinned (stat fr5) (T.obj _ _ st5)
   refine aa (iq (hg _ s5 σ3 H5 x u _ I5' r5 (step x H5 y5)) (fun _ s6 ⟨σ6,H6,I6,q6⟩=>?_) E0)
   refine aa (iq (wA hts I6 q6) (fun ok s7 ⟨H7,I7,q7⟩=>?_) E0)
   have again:∀ {σ7:St} {H7:Hp} {s7:Shared},Inv X (pins++vL fp s5.heap) σ7 H7 s7->N σ7 H7->∃ m,m<n/\∃ i σ' H',Inv X pins σ' H' s7/\tn i s7.heap/\(∀ b∈fp,H' b=none)/\W i m σ' H':=fun {σ7 H7 s7} I7 n7=>by
    obtain ⟨m',hm,w7⟩:=hN σ7 H7 n7
    refine ⟨m',hm,i+1,σ7,H7,I7.unpinned,T.keep _ _ _ st5 fun b hb o e=>(I7.pin (b,o) (dg _ (dg _ (kC hb e)))).1,fun b hb=>?_,w7⟩
    obtain ⟨o,e,d⟩:=T.obj _ _ st5 b hb
    exact (I7.pin (b,o) (dg _ (dg _ (kC hb e)))).2.1
   cases ok with
   | false=>
    rw [if_neg bu] at q7 ⊢
    exact ak ⟨rfl,again I7 q7⟩
   | true=>
    rw [if_pos rfl] at q7 ⊢
    exact hb _ s7 σ6 H7 _ _ _ _ I7 q7 fun s8 σ8 H8 I8 q8=>ak ⟨rfl,again I8 q8⟩
 refine yj ?_
 show wpAny _ _ ((compStart (.ListComp elt gens scope pos) d (.ref it) (.ref acc) X.env).onRaise (fun x=>do noteFrame x X.env;Ab theWindowsPlace)) _ _ s
 refine wpAny_notedAt ?_
 have hcl:clausesOf (.ListComp elt gens scope pos)=gens:=rfl
 unfold compStart
 rw [hcl,hgd]
 show wpAny _ _ (ask >>= _) _ _ s
 refine aa (mz (wpAny_ite ?_))
 split
 ·first
   | exact aa (ak (ak (And.intro rfl loop)))
   | exact ak (And.intro rfl loop)
 ·refine aa (uj ?_)
  show wpAny _ _ (Ab iter.pos >>= _) _ _ s
  exact aa (qk (aa (T.self X.A 0 s _ _ st (ak (And.intro rfl loop)))))
theorem aCb {elt target iter:Expr}{ifs:List Expr}{gens:List Comprehension}{scope:Scope}{pos:Pos}{d:Nat}{acc:Addr}{wi:TI}{g:TG}{ts:List TT}{tb:TS}
  (hx:X.xe=fun _ _=>False) (hc:X.calm=true) (hgd:gens[d+1]?=some ⟨target,iter,ifs,0⟩) (hn:∀ g',gens[d+2]?=some g'->g'.is_async=0)
  (hi:PI X target iter wi) (hg:PG X target g) (hts:PTs X ifs ts) (hb:PB X elt gens scope pos (d+1) acc tb) (hs:∀ x,ou iter X.env x=pure x:=by intro _;rfl) :
  PB X elt gens scope pos d acc (mW wi g (kR ts tb)):=by
 intro pins s σ H D k Q E I h hk
 unfold uY
 rw [hgd]
 have EX:∀ (e:Value) (s':Shared),X.xe e s'->E e s':=fun e s' z=>by rw [hx] at z;exact z.elim
 refine aa (iq (hi pins s σ H (fun J H1=>jE J g (kR ts tb) D σ H1) I h) (fun v s1 h1=>?_) EX)
 refine aa (qk (aa (uv (hs v) (aa (fj (iq h1 (fun itv s2 h2=>?_) EX))))))
 obtain ⟨it,fp,tn,J,H2,e,I2,T,st2,f2,q2⟩:=h2
 subst e
 refine aa (wpAny_runOwn (kq (wI hx hc hgd hn hg hts hb T I2 st2 f2 q2) fun r s3 ⟨f,hr,σ3,H3,I3,q3⟩=>?_))
 subst hr
 exact hk s3 σ3 H3 I3 q3
end
def gI (cells:List (Str × Addr)):List (Str × NameKind)->List (Str × Addr)->List (Str × Addr)
 | [],acc=>acc
 | (n,k) :: r,acc=>if k == .free then gI cells r ((n,(cells.lookup n).getD 0) :: acc) else gI cells r acc
theorem rQ {scope:Scope}{env:Env}(h:∀ x∈scope.names,x.2 = .free->(env.cells.lookup x.1).isSome=true):closureFor scope env=pure (gI env.cells scope.names []):=by
 have go:∀ (names:List (Str × NameKind)) (acc:List (Str × Addr)),(∀ x∈names,x.2 = .free->(env.cells.lookup x.1).isSome=true) ->
   (forIn names acc fun x (r:List (Str × Addr))=>if x.2 == NameKind.free then (do let c <- cellOf env x.1;pure (ForInStep.yield ((x.1,c) :: r))) else pure (ForInStep.yield r):Sem (List (Str × Addr)))=pure (gI env.cells names acc):=by
  intro names
  induction names with
  | nil=>intro acc _;rw [nq];rfl
  | cons x r ih=>
   intro acc hh
   obtain ⟨n,k⟩:=x
   rw [jr]
   unfold gI
   cases hk:k == NameKind.free with
   | false=>
    rw [if_neg bu,if_neg bu]
    exact ih acc fun y hy=>hh y (av _ hy)
   | true=>
    rw [if_pos rfl,if_pos rfl]
    obtain ⟨c,hc⟩:=gc.mp (hh (n,k) cg (by simpa using hk))
    have e:cellOf env n=pure c:=by
     unfold cellOf
     rw [show env.cells.lookup n=some c from hc]
    show (do let x <- (do let c <- cellOf env n;pure (ForInStep.yield ((n,c) :: acc)));_)=_
    rw [e]
    rw [show ((env.cells.lookup n).getD 0)=c by rw [show env.cells.lookup n=some c from hc];rfl]
    exact ih ((n,c) :: acc) fun y hy=>hh y (av _ hy)
 have:=go scope.names [] h
 unfold closureFor
 refine Eq.trans ?_ (congrArg (fun m=>m >>= fun r=>pure r) this |>.trans rfl)
 rfl
theorem qR {cells:List (Str × Addr)}{x:Str}:∀ (names:List (Str × NameKind)) (acc:List (Str × Addr)),(x,NameKind.free)∉names->(gI cells names acc).lookup x=acc.lookup x
 | [],_,_=>rfl
 | (n,k) :: r,acc,h=>by
  unfold gI
  have hr:(x,NameKind.free)∉r:=fun z=>h (av _ z)
  cases hk:k == NameKind.free with
  | false=>rw [if_neg bu];exact qR r acc hr
  | true=>
   rw [if_pos rfl,qR r _ hr,ip]
   have e:k = .free:=by simpa using hk
   have ne:(x == n)=false:=by
    cases q:x == n with
    | false=>rfl
    | true=>exact absurd (by rw [beq_iff_eq.mp q,e];exact cg) h
   rw [ne]
theorem oU {cells:List (Str × Addr)}{x:Str}{c:Addr}(hc:cells.lookup x=some c):∀ (names:List (Str × NameKind)) (acc:List (Str × Addr)),(x,NameKind.free)∈names->(gI cells names acc).lookup x=some c
 | [],_,h=>by simp at h
 | (n,k) :: r,acc,h=>by
  unfold gI
  by_cases hr:(x,NameKind.free)∈r
  ·cases hk:k == NameKind.free with
   | false=>rw [if_neg bu];exact oU hc r acc hr
   | true=>rw [if_pos rfl];exact oU hc r _ hr
  ·rcases bj.mp h with e | e
   ·cases e
    rw [if_pos (by decide),qR r _ hr,ip]
    simp [hc]
   ·exact absurd e hr
theorem nD {cells:List (Str × Addr)}{x:Str}{c:Addr}:∀ (names:List (Str × NameKind)) (acc:List (Str × Addr)),(∀ y∈names,y.2 = .free->(cells.lookup y.1).isSome=true)->(x,c)∈gI cells names acc ->
  (x,c)∈acc\/((x,NameKind.free)∈names/\cells.lookup x=some c)
 | [],_,_,h => .inl h
 | (n,k) :: r,acc,hh,h=>by
  unfold gI at h
  have hr:∀ y∈r,y.2 = .free->(cells.lookup y.1).isSome=true:=fun y hy=>hh y (av _ hy)
  cases hk:k == NameKind.free with
  | false=>
   rw [hk,if_neg bu] at h
   exact (nD r acc hr h).imp id fun z=>⟨av _ z.1,z.2⟩
  | true=>
   rw [hk,if_pos rfl] at h
   have ek:k = .free:=by simpa using hk
   rcases nD r _ hr h with z | z
   ·rcases bj.mp z with z | z
    ·cases z
     obtain ⟨d,hd⟩:=gc.mp (hh (x,k) cg ek)
     exact .inr ⟨by rw [ek];exact cg,by rw [hd];rfl⟩
    ·exact .inl z
   ·exact .inr ⟨av _ z.1,z.2⟩
theorem lF {cells:List (Str × Addr)}(inj:∀ x y c,cells.lookup x=some c->cells.lookup y=some c->x=y):∀ (names:List (Str × NameKind)) (acc:List (Str × Addr)),(names.map (·.1)).Nodup ->
  (∀ y∈names,y.2 = .free->(cells.lookup y.1).isSome=true)->(∀ p∈acc,cells.lookup p.1=some p.2/\p.1∉names.map (·.1))->(acc.Pairwise fun x y=>x.2≠y.2)->(gI cells names acc).Pairwise fun x y=>x.2≠y.2
 | [],_,_,_,_,h=>h
 | (n,k) :: r,acc,nd,hh,ha,h=>by
  unfold gI
  have hr:∀ y∈r,y.2 = .free->(cells.lookup y.1).isSome=true:=fun y hy=>hh y (av _ hy)
  obtain ⟨n1,n2⟩:=gh.mp nd
  cases hk:k == NameKind.free with
  | false=>
   rw [if_neg bu]
   exact lF inj r acc n2 hr (fun p hp=>⟨(ha p hp).1,fun z=>(ha p hp).2 (av _ z)⟩) h
  | true=>
   rw [if_pos rfl]
   have ek:k = .free:=by simpa using hk
   obtain ⟨d,hd⟩:=gc.mp (hh (n,k) cg ek)
   have hd':cells.lookup n=some d:=hd
   refine lF inj r _ n2 hr (fun p hp=>?_) (vm.mpr ⟨fun p hp e=>?_,h⟩)
   ·rcases bj.mp hp with e | hp
    ·subst e;exact ⟨by rw [hd'];rfl,n1⟩
    ·exact ⟨(ha p hp).1,fun z=>(ha p hp).2 (av _ z)⟩
   ·rw [hd'] at e
    have e':d=p.2:=e
    have:n=p.1:=inj n p.1 d hd' (by rw [e'];exact (ha p hp).1)
    exact (ha p hp).2 (by rw [<- this];exact cg)
theorem gS {x:Str}{c:Addr}:∀ (names:List (Str × NameKind)) (n:Nat) (acc:List (Str × Addr)),(x,c)∈jx n names acc->(n<=c/\(x,NameKind.cell)∈names)\/(x,c)∈acc
 | [],_,_,h => .inr h
 | (y,k) :: r,n,acc,h=>by
  unfold jx at h
  cases hk:k == NameKind.cell with
  | false=>
   rw [hk,if_neg bu] at h
   exact (gS r n acc h).imp (fun z=>⟨z.1,av _ z.2⟩) id
  | true=>
   rw [hk,if_pos rfl] at h
   have ek:k = .cell:=by simpa using hk
   rcases gS r (n+1) _ h with z | z
   ·exact .inl ⟨by omega,av _ z.2⟩
   ·rcases bj.mp z with z | z
    ·cases z
     exact .inl ⟨ay _,by rw [ek];exact cg⟩
    ·exact .inr z
theorem gE:∀ (names:List (Str × NameKind)) (n:Nat) (acc:List (Str × Addr)),(∀ p∈acc,p.2<n)->(acc.Pairwise fun x y=>x.2≠y.2)->(jx n names acc).Pairwise fun x y=>x.2≠y.2
 | [],_,_,_,h=>h
 | (y,k) :: r,n,acc,hl,h=>by
  unfold jx
  cases hk:k == NameKind.cell with
  | false=>rw [if_neg bu];exact gE r n acc hl h
  | true=>
   rw [if_pos rfl]
   refine gE r (n+1) _ (fun p hp=>?_) (vm.mpr ⟨fun p hp e=>?_,h⟩)
   ·rcases bj.mp hp with e | hp
    ·subst e;exact nc _
    ·exact jm (hl p hp)
   ·have e':n=p.2:=e
    exact kn _ (e' ▸ hl p hp)
theorem iN {x:Str}:∀ (names:List (Str × NameKind)) (n:Nat) (acc:List (Str × Addr)),(x,NameKind.cell)∉names->(jx n names acc).lookup x=acc.lookup x
 | [],_,_,_=>rfl
 | (y,k) :: r,n,acc,h=>by
  unfold jx
  have hr:(x,NameKind.cell)∉r:=fun z=>h (av _ z)
  cases hk:k == NameKind.cell with
  | false=>rw [if_neg bu];exact iN r n acc hr
  | true=>
   rw [if_pos rfl,iN r _ _ hr,ip]
   have e:k = .cell:=by simpa using hk
   have ne:(x == y)=false:=by
    cases q:x == y with
    | false=>rfl
    | true=>exact absurd (by rw [beq_iff_eq.mp q,e];exact cg) h
   rw [ne]
theorem gG {x:Str}{c:Addr}:∀ (names:List (Str × NameKind)) (h:Heap) (acc:List (Str × Addr)),(x,c)∈jx h.objs.size names acc->(x,c)∈acc\/(Bd h names).IsCell c none
 | [],_,_,hm => .inl hm
 | (y,k) :: r,h,acc,hm=>by
  unfold jx at hm
  unfold Bd
  cases hk:k == NameKind.cell with
  | false=>
   rw [hk,if_neg bu] at hm
   rw [if_neg bu]
   exact gG r h acc hm
  | true=>
   rw [hk,if_pos rfl] at hm
   rw [if_pos rfl]
   have:=gG (x:=x) (c:=c) r (h.push { cls := .type "cell",data := .cell none }) ((y,h.objs.size) :: acc) (by rw [jc];exact hm)
   rcases this with z | z
   ·rcases bj.mp z with z | z
    ·cases z
     exact .inr ⟨_,yk r _ _ _ (bp _ rfl),rfl⟩
    ·exact .inl z
   ·exact .inr z
theorem dX {x:Str}{k:NameKind}:∀ {names:List (Str × NameKind)},(names.map (·.1)).Nodup->(x,k)∈names->names.lookup x=some k
 | [],_,h=>by simp at h
 | (y,j) :: r,nd,h=>by
  obtain ⟨n1,n2⟩:=gh.mp nd
  rw [ip]
  rcases bj.mp h with e | e
  ·cases e;simp
  ·have ne:(x == y)=false:=by
    cases q:x == y with
    | false=>rfl
    | true=>exact absurd (cy.mpr ⟨(x,k),e,beq_iff_eq.mp q⟩) n1
   rw [ne]
   exact dX n2 e
theorem mD {scope:Scope}{env:Env}{x:Str}{k:NameKind}:(AM scope env).names.lookup x=some k->(k = .cell\/k = .free)->scope.names.lookup x=some .cell\/scope.names.lookup x=some .free:=by
 unfold AM
 show (scope.names.map _).lookup x=some k->_
 induction scope.names with
 | nil=>intro h;simp at h
 | cons p r ih=>
  obtain ⟨n,j⟩:=p
  intro h hk
  rw [df] at h
  rw [ip]
  by_cases hc:(j == NameKind.free && env.scope.kind == .function && env.kindOf n == some .cell)=true
  ·simp only [hc,if_true] at h
   rw [ip] at h
   cases q:x == n with
   | true=>
    have:j = .free:=by
     have:=(ua.mp (ua.mp hc).1).1
     simpa using this
    simp [this]
   | false=>rw [q] at h;simpa using ih h hk
  ·simp only [hc,dm,if_false] at h
   rw [ip] at h
   cases q:x == n with
   | true=>
    rw [q] at h
    simp only [Option.some.injEq] at h
    subst h
    rcases hk with e | e <;> simp [e]
   | false=>rw [q] at h;simpa using ih h hk
theorem wY {scope:Scope}{env:Env}{x:Str}(hf:env.scope.kind = .function):scope.names.lookup x=some .free->(AM scope env).names.lookup x=some .cell\/(AM scope env).names.lookup x=some .free:=by
 unfold AM
 show _->(scope.names.map _).lookup x=_\/(scope.names.map _).lookup x=_
 induction scope.names with
 | nil=>intro h;simp at h
 | cons p r ih=>
  obtain ⟨n,j⟩:=p
  intro h
  rw [ip] at h
  rw [df]
  cases q:x == n with
  | true=>
   rw [q] at h
   simp only [Option.some.injEq] at h
   subst h
   by_cases hc:(NameKind.free == NameKind.free && env.scope.kind == .function && env.kindOf n == some .cell)=true
   ·left;simp only [hc,if_true];rw [ip,q]
   ·right;simp only [hc,dm,if_false];rw [ip,q]
  | false=>
   rw [q] at h
   by_cases hc:(j == NameKind.free && env.scope.kind == .function && env.kindOf n == some .cell)=true
   ·simp only [hc,if_true];rw [ip,q];exact ih h
   ·simp only [hc,dm,if_false];rw [ip,q];exact ih h
def gN (X:Cx) (N:List Str) (scope:Scope) (s:Shared) (H:Hp) (fp:List Addr):Cx where
 prog:=X.prog
 w:=X.w
 K:=X.K
 mg:=X.mg
 base:=X.base
 A:=X.A
 N:=N
 s₀:=s
 H₀:=H
 env:=compEnvC scope (jx (s.heap.objs.size+1) scope.names (gI X.env.cells scope.names [])) s.heap.objs.size X.env
 outer:=X.stack
 stack:=X.stack
 ex:=fp
 fn:=fun x=>scope.names.lookup x == some .cell
 calm:=X.calm
 pn:=[]
 xe:=fun _ _=>False
def aHZ (σ:St):Option Nat->Option V
 | none=>none
 | some j=>(σ[j]?).join
def mC (N:List Str) (names encl:List (Str × NameKind)) (N':List Str) (ix:List (Option Nat)):Bool:=
 decide ((names.map (·.1)).Nodup) && names.all (fun p=>!(p.2 == NameKind.free) || (encl.lookup p.1 == some NameKind.cell || encl.lookup p.1 == some NameKind.free)) && ix.length == N'.length &&
  ((N'.zip ix).all fun p=>match p.2 with
   | none=>true
   | some j=>N[j]? == some p.1 && names.lookup p.1 == some NameKind.free)
def fU (ix:List (Option Nat)) (wi:TI) (g:TG) (ts:List TT) (tb:Addr->TS):TE:=fun σ H Q=>wi σ H fun J H1=>∀ acc,H1 acc=none ->
 jE J g (kR ts (tb acc)) { nx:=fun _ H'=>Q (.ref acc) H',rt:=fun _ _=>False } (ix.map (aHZ σ)) (upd H1 acc (.lst []))
section
variable {X:Cx}{elt target iter:Expr}{ifs:List Expr}{rest:List Comprehension}{scope:Scope}{pos:Pos}{N':List Str}{ix:List (Option Nat)}{wi:TI}{g:TG}{ts:List TT}{tb:Addr->TS}
theorem aAf {pins:List (Addr × Obj)}{σ:St}{H:Hp}{s:Shared}{fp:List Addr}{Q:Env->Shared->Prop}{E:Value->Shared->Prop}(I:Inv X pins σ H s)(hok:mC X.N scope.names X.env.scope.names N' ix=true)(hk:scope.kind = .function)
  (hf:∀ b∈fp,FpOk X pins H b) (hfo:∀ b∈fp,∃ o,s.heap.get? b=some o)
  (h:∀ s',(∀ b o,s.heap.get? b=some o->s'.heap.get? b=some o)->Inv (gN X N' scope s H fp) [] (ix.map (aHZ σ)) H s'->Q (newEnv scope s.heap.objs.size X.env.globals (jx (s.heap.objs.size+1) scope.names (gI X.env.cells scope.names [])) X.env.qual none .none (some X.env) AI) s') :
  wpAny (model X.prog X.w) X.A (zr scope X.env.globals (gI X.env.cells scope.names []) [] X.env.qual none .none (some X.env)) Q E s:=by
 have hok2:=hok
 simp only [mC,ff,decide_eq_true_eq,fg] at hok
 obtain ⟨⟨⟨nd,hfr⟩,hlen⟩,hix⟩:=hok
 have hlen:ix.length=N'.length:=by simpa using hlen
 have isF:∀ y∈scope.names,y.2 = .free->X.env.kindOf y.1=some .cell\/X.env.kindOf y.1=some .free:=fun y hy e=>by
  have:=hfr y hy
  have:X.env.scope.names.lookup y.1=some .cell\/X.env.scope.names.lookup y.1=some .free:=by simpa [e] using this
  exact this
 have hasC:∀ y∈scope.names,y.2 = .free->(X.env.cells.lookup y.1).isSome=true:=fun y hy e=>by
  obtain ⟨c,hc⟩:=I.ok.has y.1 (isF y hy e)
  rw [hc];rfl
 have oldC:∀ x c,(x,c)∈gI X.env.cells scope.names []->(x,NameKind.free)∈scope.names/\X.env.cells.lookup x=some c:=fun x c hm=>(nD _ _ hasC hm).resolve_left (by simp)
 have ltC:∀ x c,X.env.cells.lookup x=some c->c<s.heap.objs.size:=fun x c e=>by obtain ⟨v,q⟩:=I.cell x c e;exact q.lt
 have apart:(jx (s.heap.objs.size+1) scope.names (gI X.env.cells scope.names [])).Pairwise fun x y=>x.2≠y.2:=
  gE _ _ _ (fun p hp=>jm (ltC p.1 p.2 (oldC p.1 p.2 hp).2)) (lF I.ok.inj _ _ nd hasC (by simp) List.Pairwise.nil)
 have fromC:∀ x c,(jx (s.heap.objs.size+1) scope.names (gI X.env.cells scope.names [])).lookup x=some c->(s.heap.objs.size+1<=c/\(x,NameKind.cell)∈scope.names)\/((x,NameKind.free)∈scope.names/\X.env.cells.lookup x=some c):=fun x c e=>
  (gS _ _ _ (gk e)).imp id fun z=>oldC x c z
 have sz1:(s.heap.push { cls := .type "dict",data := .dict #[] }).objs.size=s.heap.objs.size+1:=jc ..
 simp only [zr,Option.isSome_some,if_true]
 refine aa (wpAny_alloc ?_)
 refine aa (wpAny_layCells _ (fun name kind cells=>by cases hkc:kind == NameKind.cell <;> simp [hkc]) _ _ _ _ ?_)
 rw [show ({ s with heap:=s.heap.push { cls := .type "dict",data := .dict #[] } }:Shared).heap.objs.size=s.heap.objs.size+1 from sz1]
 refine aa ?_
 rw [nq]
 refine ak (ak ?_)
 have keep:∀ b o,s.heap.get? b=some o->(Bd (s.heap.push { cls := .type "dict",data := .dict #[] }) scope.names).get? b=some o:=fun b o e=>yk _ _ b o (ao _ e)
 refine h _ keep ?_
 have kk:∀ x:Str,(gN X N' scope s H fp).env.kindOf x=(AM scope X.env).names.lookup x:=fun _=>rfl
 have emptyC:∀ x c,(jx (s.heap.objs.size+1) scope.names (gI X.env.cells scope.names [])).lookup x=some c->∃ v,(Bd (s.heap.push { cls := .type "dict",data := .dict #[] }) scope.names).IsCell c v:=fun x c e=>by
  have:=gG (x:=x) (c:=c) scope.names (s.heap.push { cls := .type "dict",data := .dict #[] }) (gI X.env.cells scope.names []) (by rw [sz1];exact gk e)
  rcases this with z | z
  ·obtain ⟨v,q⟩:=I.cell x c (oldC x c z).2
   exact ⟨v,q.keeps keep⟩
  ·exact ⟨none,z⟩
 refine ⟨⟨I.ok.mod,hk,I.ok.glob,I.ok.blt,ay _,fun y z c h1 h2=>?_,fun y hy=>?_,fun y c hy e=>?_,I.ok.hd,I.ok.frames, .inl rfl,fun b hb=>⟨?_,fun x c e=>?_⟩,I.bs,et I.ok.bsz I.sz,fun b o e hb=>?_,fun b hb hs=>?_,I.stack,I.stkFree⟩,
  rfl,I.bare,Un.kept keep,⟨fun _=>none,(Heap.Ns.new s.heap (.type "dict")).keeps (yk _ _),fun i x v e1 e2 e3=>?_⟩,emptyC,I.hok.fresh (ay _),fun y c e=>?_,fun p hp=>absurd (show p∈([]:List (Addr × Obj)) from hp) (by simp),I.hok.kept keep,by rw [af];exact hlen⟩
 ·exact name_of_addr apart (gk h1) (gk h2)
 ·rw [kk] at hy
  have hy':scope.names.lookup y=some .cell\/scope.names.lookup y=some .free:=by
   rcases hy with q | q
   ·exact mD q (.inl rfl)
   ·exact mD q (.inr rfl)
  refine gc.mp (qx _ _ _ ?_)
  rcases hy' with q | q
  ·exact .inl q
  ·have hm:=gk q
   obtain ⟨c,hc⟩:=gc.mp (hasC _ hm rfl)
   exact .inr (by rw [oU hc _ _ hm];rfl)
 ·have hy:scope.names.lookup y=some .cell:=by simpa using (show (scope.names.lookup y == some NameKind.cell)=true from hy)
  rcases fromC y c e with z | z
  ·exact wo z.1
  ·have:=dX nd z.1
   rw [hy] at this;cases this
 ·obtain ⟨o,ho⟩:=hfo b hb
  exact d0 (br ho)
 ·rcases fromC x c e with z | z
  ·obtain ⟨o,ho⟩:=hfo b hb
   exact mj (cv (br ho) (wo z.1))
  ·exact (hf b hb).2.2.2.2.1 x c z.2
 ·rcases (hf b hb).2.2.2.1 with z | z
  ·exact I.ok.noex b o e z
  ·exact absurd (cv (br (I.ok.bs b o e).1) z) (kn _)
 ·rcases bj.mp (I.stkSub b hs) with z | z
  ·exact (hf b hb).2.1 z
  ·exact (hf b hb).2.2.1 z
 ·rw [az] at e2
  cases hj:ix[i]? with
  | none=>rw [hj] at e2;cases e2
  | some oj=>
   rw [hj] at e2
   have e2:aHZ σ oj=some v:=by simpa using e2
   cases oj with
   | none=>cases e2
   | some j=>
    have hv:σ[j]?=some (some v):=by
     have e2':(σ[j]?).join=some v:=e2
     cases q:σ[j]? with
     | none=>rw [q] at e2';cases e2'
     | some w=>rw [q] at e2';have:w=some v:=e2';rw [this]
    have hz:(x,some j)∈N'.zip ix:=by
     refine aw (i:=i) ?_
     rw [List.getElem?_zip_eq_some]
     exact ⟨e1,hj⟩
    have:=hix _ hz
    simp only [ff,beq_iff_eq] at this
    obtain ⟨n1,n2⟩:=this
    have hm:=gk n2
    obtain ⟨m,hn,hl⟩:=I.loc
    have kf:=isF (x, .free) hm rfl
    have vis:Vis X.env.scope x:=by
     rcases kf with q | q
     ·exact .inr (.inl q)
     ·exact .inr (.inr q)
    obtain ⟨u,r,l⟩:=hl j x v n1 hv vis
    refine ⟨u,r, .inr ?_⟩
    rcases l with ⟨k1,_⟩ | ⟨_,c,hc,hcell⟩
    ·rcases kf with q | q <;> (rw [show X.env.kindOf x=some NameKind.local from k1] at q;cases q)
    ·refine ⟨?_,c,?_,hcell.keeps keep⟩
     ·rw [kk];exact wY I.ok.kind n2
     ·show (jx _ _ _).lookup x=some c
      rw [iN,oU hc _ _ hm]
      intro z
      have:=dX nd z
      rw [n2] at this;cases this
 ·rcases fromC y c e with z | z
  ·exact I.hok.fresh (wo z.1)
  ·exact I.freeC y c z.2
theorem sX {pins:List (Addr × Obj)}{σ:St}{H:Hp}{s:Shared}{it:Addr}{fp:List Addr}{tn:Nat->Heap->Prop}{J:It}{RR:Value->Addr->zq->Shared->Prop}{E:Value->Shared->Prop}{D:Addr->mJ}
  (hc:X.calm=true) (hok:mC X.N scope.names X.env.scope.names N' ix=true) (hk:scope.kind = .function) (hn:∀ g',rest[0]?=some g'->g'.is_async=0)
  (hg:∀ s H fp,PG (gN X N' scope s H fp) target g) (hts:∀ s H fp,PTs (gN X N' scope s H fp) ifs ts)
  (hb:∀ s H fp acc,PB (gN X N' scope s H fp) elt (⟨target,iter,ifs,0⟩ :: rest) scope pos 0 acc (tb acc))
  (I:Inv X pins σ H s) (T:aFu X.prog X.w X.K target J fp it tn) (st:tn 0 s.heap) (hf:∀ b∈fp,FpOk X pins H b)
  (h:∀ acc,H acc=none->jE J g (kR ts (tb acc)) (D acc) (ix.map (aHZ σ)) (upd H acc (.lst [])))
  (hR:∀ acc C s' H' σ',H acc=none->s.heap.objs.size<=C->Inv X pins σ H' s'->FpOk X pins H' C->(∃ m,s'.heap.Ns C m)->(D acc).nx σ' H'->RR (.ref acc) C (.ok .next) s') :
  wpAny (model X.prog X.w) X.A (newList []) (fun acc s₃=>wpAny (model X.prog X.w) X.A (zr scope X.env.globals (gI X.env.cells scope.names []) [] X.env.qual none .none (some X.env)) (fun cenv s₄=>
   uq (model X.prog X.w) X.A (.compStart (.ListComp elt (⟨target,iter,ifs,0⟩ :: rest) scope pos) 0 (.ref it) acc { cenv with scope:=AM scope X.env }) (fun r s'=>∃ f,r = .ok f/\RR acc cenv.locals (.ok .next) s') s₄) E s₃) E s:=by
 refine gf ?_
 have hnone:H s.heap.objs.size=none:=I.hok.fresh (ay _)
 have I3:Inv X pins σ (upd H s.heap.objs.size (.lst [])) { s with heap:=s.heap.push { cls := .type "list",data := .seq ([]:List Value).toArray } }:=
  I.laid (t':=s.toks) (fun b u e=>ao _ e) (ay _) ⟨bh _,[],0, .nil,bp _ rfl⟩
 have hlt:∀ b∈fp,b<s.heap.objs.size:=fun b hb=>by obtain ⟨o,ho,_⟩:=T.obj 0 _ st b hb;exact br ho
 have hf3:∀ b∈fp,FpOk X pins (upd H s.heap.objs.size (.lst [])) b:=fun b hb=>⟨by rw [aX (d0 (hlt b hb))];exact (hf b hb).1,(hf b hb).2⟩
 refine aAf (fp:=fp) I3 hok hk hf3 (fun b hb=>?_) fun s4 keep I4=>?_
 ·obtain ⟨o,ho,_⟩:=T.obj 0 _ st b hb
  exact ⟨o,ao _ ho⟩
 have st4:tn 0 s4.heap:=T.keep 0 _ _ st fun b hb o e=>keep b o (ao _ e)
 have size3:({ s with heap:=s.heap.push { cls := .type "list",data := .seq ([]:List Value).toArray } }:Shared).heap.objs.size=s.heap.objs.size+1:=jc ..
 have hf4:∀ b∈fp,FpOk (gN X N' scope { s with heap:=s.heap.push { cls := .type "list",data := .seq ([]:List Value).toArray } } (upd H s.heap.objs.size (.lst [])) fp) [] (upd H s.heap.objs.size (.lst [])) b:=fun b hb=>
  ⟨(hf3 b hb).1,(I4.ok.exf b hb).1,I4.ok.exfs b hb, .inl hb,(I4.ok.exf b hb).2,fun p hp=>absurd (show p∈([]:List (Addr × Obj)) from hp) (by simp)⟩
 refine kq (wI (X:=gN X N' scope { s with heap:=s.heap.push { cls := .type "list",data := .seq ([]:List Value).toArray } } (upd H s.heap.objs.size (.lst [])) fp) rfl hc (d:=0) (gens:=⟨target,iter,ifs,0⟩ :: rest) rfl hn (hg _ _ _) (hts _ _ _) (hb _ _ _ _) T I4 st4 hf4 (h _ hnone)) fun r s5 ⟨f,hr,σ5,H5,I5,q5⟩=>⟨f,hr,?_⟩
 have I6:Inv X pins σ H5 s5:=I3.call' (ch:=fp) (I5.os.trans rfl) I5.base I5.hok I5.bare fun b hb=>⟨(hf3 b hb).2.2.2.1,(hf3 b hb).2.1,(hf3 b hb).2.2.2.2.1,(hf3 b hb).2.2.2.2.2⟩
 have hC:s.heap.objs.size<=(gN X N' scope { s with heap:=s.heap.push { cls := .type "list",data := .seq ([]:List Value).toArray } } (upd H s.heap.objs.size (.lst [])) fp).env.locals:=by
  show s.heap.objs.size<=_
  exact et (xg _) (Nat.le_of_eq size3.symm)
 refine hR _ _ s5 H5 σ5 hnone hC I6 (I3.fpOk (ay _) I5.free) ?_ q5
 obtain ⟨m,hm,_⟩:=I5.loc
 exact ⟨m,hm⟩
theorem nU (hok:mC X.N scope.names X.env.scope.names N' ix=true):∀ x∈scope.names,x.2 = .local->scope.names.lookup x.1=some .local:=by
 simp only [mC,ff,decide_eq_true_eq,fg] at hok
 intro x hx e
 obtain ⟨n,k⟩:=x
 have e:k = .local:=e
 subst e
 exact dX hok.1.1.1 hx
theorem qU {pins:List (Addr × Obj)}{σ:St}{H:Hp}{s:Shared}(I:Inv X pins σ H s)(hok:mC X.N scope.names X.env.scope.names N' ix=true):closureFor scope X.env=pure (gI X.env.cells scope.names []):=by
 refine rQ fun y hy e=>?_
 simp only [mC,ff,decide_eq_true_eq,fg] at hok
 have:=hok.1.1.2 y hy
 have:X.env.scope.names.lookup y.1=some .cell\/X.env.scope.names.lookup y.1=some .free:=by simpa [e] using this
 obtain ⟨c,hc⟩:=I.ok.has y.1 this
 rw [hc];rfl
theorem dQ (hok:mC X.N scope.names X.env.scope.names N' ix=true)(hk:scope.kind = .function)(hc:X.calm=true)(hi:PI X target iter wi)
  (hg:∀ s H fp,PG (gN X N' scope s H fp) target g) (hts:∀ s H fp,PTs (gN X N' scope s H fp) ifs ts)
  (hb:∀ s H fp acc,PB (gN X N' scope s H fp) elt (⟨target,iter,ifs,0⟩ :: rest) scope pos 0 acc (tb acc))
  (hn:∀ g',rest[0]?=some g'->g'.is_async=0:=by intro _ h;first | cases h;rfl | cases h) (hs:∀ x,ou iter X.env x=pure x:=by intro _;rfl) :
  PE X (.ListComp elt (⟨target,iter,ifs,0⟩ :: rest) scope pos) (fU ix wi g ts tb):=by
 intro pins s σ H Q I h
 rw [eval_ListComp]
 refine wq (use:=none) rfl hs (qU I hok) hk (nU hok) (thn (hi pins s σ H _ I h) fun xv s₁ h₁=>thn h₁ fun itv s₂ h₂=>?_)
 obtain ⟨it,fp,tn,J,H2,e,I2,T,st2,f2,q2⟩:=h₂
 subst e
 refine thn (sX (RR:=fun acc C r s'=>compPost (model X.prog X.w) X.A X.xe none (EP X pins σ Q) acc C r s') hc hok hk hn hg hts hb I2 T st2 f2 q2 fun acc C s' H' σ' ha hC I' fC hns q=>?_) fun acc s3 h3=>thn h3 fun cenv s4 h4=>kq h4 fun r s5 ⟨f,hr,h5⟩=>?_
 ·obtain ⟨m,hm⟩:=hns
  refine ⟨m,hm,fun h' hs'=>⟨.ref acc,H',I'.turned (t':=s'.toks) (fun b o hb e=>(hs'.2 b hb).trans e) fC.1 fC.2.1 fC.2.2.2.1 fC.2.2.2.2.1 fC.2.2.2.2.2,rfl,q⟩⟩
 ·subst hr
  exact h5
theorem hX {i:Nat}{x:Str}{pos' spos:Pos}(hN:X.N.Nodup)(hix:X.N[i]?=some x)(hx:Loc X.env.scope x)(hok:mC X.N scope.names X.env.scope.names N' ix=true)(hk:scope.kind = .function)(hc:X.calm=true)(hi:PI X target iter wi)
  (hg:∀ s H fp,PG (gN X N' scope s H fp) target g) (hts:∀ s H fp,PTs (gN X N' scope s H fp) ifs ts)
  (hb:∀ s H fp acc,PB (gN X N' scope s H fp) elt (⟨target,iter,ifs,0⟩ :: rest) scope pos 0 acc (tb acc))
  (hsw:A8 (.ListComp elt (⟨target,iter,ifs,0⟩ :: rest) scope pos) (some (.Name x pos')) spos.line X.env=pure true:=by rfl)
  (hf:X.fn x=true\/X.env.scope.names.lookup x=some .local:=by first | exact .inl rfl | exact .inr rfl | assumption)
  (hn:∀ g',rest[0]?=some g'->g'.is_async=0:=by intro _ h;first | cases h;rfl | cases h) (hs:∀ x,ou iter X.env x=pure x:=by intro _;rfl) :
  PS X (.Assign [.Name x pos'] (.ListComp elt (⟨target,iter,ifs,0⟩ :: rest) scope pos) spos) (bU (fU ix wi g ts tb) (aL i)):=by
 intro pins s σ H D I h
 rw [exec_Assign_Name_used _ _ _ _ hsw]
 refine aa (qk (aa ?_))
 show wpAny _ X.A (do let _ <- comprehension (.ListComp elt (⟨target,iter,ifs,0⟩ :: rest) scope pos) scope X.env _ (newList []) false (eval iter X.env) (some (AQ (.Name x pos') X.env))) _ _ s
 refine aa (iq (wq (use:=some (AQ (.Name x pos') X.env)) (Q:=fun _ s'=>SP X pins D .next s') rfl hs (qU I hok) hk (nU hok) (thn (hi pins s σ H _ I h) fun xv s₁ h₁=>thn h₁ fun itv s₂ h₂=>?_)) (fun _ s' hq=>ak (ak hq)) fun _ _ e=>e)
 obtain ⟨it,fp,tn,J,H2,e,I2,T,st2,f2,q2⟩:=h₂
 subst e
 refine thn (sX (RR:=fun acc C r s'=>compPost (model X.prog X.w) X.A X.xe (some (AQ (.Name x pos') X.env)) (fun _ s'=>SP X pins D .next s') acc C r s') hc hok hk hn hg hts hb I2 T st2 f2 q2 fun acc C s' H' σ' ha hC I' fC hns q=>?_) fun acc s3 h3=>thn h3 fun cenv s4 h4=>kq h4 fun r s5 ⟨f,hr,h5⟩=>?_
 ·obtain ⟨m,hm⟩:=hns
  show wpAny _ X.A (AQ (.Name x pos') X.env (.ref acc)) _ _ _
  refine wpAny_assign_Name (vU I' hN hix hx (v := .ref acc) rfl (fun s6 I6 ⟨a,hsb,ha6⟩=>?_) hf)
  have hCa:C≠a:=by
   rcases ha6 with z | z
   ·rw [z];exact fC.2.1
   ·exact (fC.2.2.2.2.1 x a z).symm
  refine ⟨m,hm.sameBut hsb hCa,fun h' hs'=>⟨_,H',I6.turned (t':=s6.toks) (fun b o hb e=>(hs'.2 b hb).trans e) fC.1 fC.2.1 fC.2.2.2.1 fC.2.2.2.2.1 fC.2.2.2.2.2,q⟩⟩
 ·subst hr
  exact h5
end
theorem Same.tup {K:ae}{H H':Hp}{a:Addr}{xs:List V}(e:Same H H')(h:SqT K H a xs):SqT K H' a xs:=by
 rcases h with (h | ⟨o,h⟩) | h
 ·exact .inl (.inl (e _ _ h))
 ·exact .inl (.inr ⟨o,e _ _ h⟩)
 ·exact .inr h
inductive Dt where
 | non | bl (b:Bool) | int (i:Int) | str (x:Str) | tup (ds:List Dt) | lst (ds:List Dt)
mutual
def Sh (K:ae) (H:Hp):Dt->V->Prop
 | .non,v=>v = .non
 | .bl b,v=>v = .bl b
 | .int i,v=>v = .int i
 | .str x,v=>v = .str x
 | .tup ds,v=>∃ a xs,v = .ref a/\SqT K H a xs/\ShL K H ds xs
 | .lst ds,v=>∃ a xs,v = .ref a/\SqL K H a xs/\ShL K H ds xs
def ShL (K:ae) (H:Hp):List Dt->List V->Prop
 | [],xs=>xs=[]
 | d :: ds,xs=>∃ x r,xs=x :: r/\Sh K H d x/\ShL K H ds r
end
mutual
def eqD:Dt->Dt->Bool
 | .non, .non=>true
 | .bl a, .bl b=>a == b
 | .int a, .int b=>a == b
 | .str a, .str b=>a == b
 | .bl a, .int b=>(if a then 1 else 0) == b
 | .int a, .bl b=>a == (if b then 1 else 0)
 | .tup ds, .tup es=>eqL ds es
 | .lst ds, .lst es=>eqL ds es
 | _,_=>false
def eqL:List Dt->List Dt->Bool
 | [],[]=>true
 | d :: ds,e :: es=>eqD d e && eqL ds es
 | _,_=>false
end
mutual
def dep:Dt->Nat
 | .tup ds=>wZ ds+1
 | .lst ds=>wZ ds+1
 | _=>0
def wZ:List Dt->Nat
 | []=>0
 | d :: ds=>max (dep d) (wZ ds)
end
section
variable {K:ae}{H H':Hp}
mutual
theorem Sh.same (e:Same H H'):∀ {d:Dt} {v:V},Sh K H d v->Sh K H' d v
 | .non,_,h=>h
 | .bl _,_,h=>h
 | .int _,_,h=>h
 | .str _,_,h=>h
 | .tup ds,_,⟨a,xs,h1,h2,h3⟩=>⟨a,xs,h1,e.tup h2,ShL.same e h3⟩
 | .lst ds,_,⟨a,xs,h1,h2,h3⟩=>⟨a,xs,h1,e.seq h2,ShL.same e h3⟩
theorem ShL.same (e:Same H H'):∀ {ds:List Dt} {xs:List V},ShL K H ds xs->ShL K H' ds xs
 | [],_,h=>h
 | d :: ds,_,⟨x,r,h1,h2,h3⟩=>⟨x,r,h1,Sh.same e h2,ShL.same e h3⟩
end
theorem ShL.length:∀ {ds:List Dt} {xs:List V},ShL K H ds xs->ds.length=xs.length
 | [],_,h=>by rw [show _=[] from h];rfl
 | d :: ds,_,⟨x,r,h1,h2,h3⟩=>by rw [h1,cw,cw,ShL.length h3]
theorem ShL.get:∀ {ds:List Dt} {xs:List V} {j:Nat} {d:Dt},ShL K H ds xs->ds[j]?=some d->∃ x,xs[j]?=some x/\Sh K H d x
 | [],_,_,_,_,h=>by simp at h
 | d :: ds,_,0,e,⟨x,r,h1,h2,h3⟩,h=>by
  have:d=e:=by simpa using h
  subst this
  exact ⟨x,by rw [h1];rfl,h2⟩
 | d :: ds,_,j+1,e,⟨x,r,h1,h2,h3⟩,h=>by
  obtain ⟨y,h4,h5⟩:=ShL.get (j:=j) h3 (by simpa using h)
  exact ⟨y,by rw [h1];simpa using h4,h5⟩
theorem ShL.ints:∀ (ns:List Int),ShL K H (ns.map Dt.int) (ns.map V.int)
 | []=>rfl
 | n :: ns=>⟨.int n,ns.map V.int,rfl,rfl,ShL.ints ns⟩
theorem ShL.of_ints:∀ {ns:List Int} {xs:List V},ShL K H (ns.map Dt.int) xs->xs=ns.map V.int
 | [],_,h=>h
 | n :: ns,_,⟨x,r,h1,h2,h3⟩=>by rw [h1,ShL.of_ints h3,show x=V.int n from h2];rfl
end
mutual
theorem aDC:∀ d:Dt,eqD d d=true
 | .non=>by unfold eqD;rfl
 | .bl b=>by unfold eqD;simp
 | .int b=>by unfold eqD;simp
 | .str b=>by unfold eqD;simp
 | .tup ds=>by unfold eqD;exact mI ds
 | .lst ds=>by unfold eqD;exact mI ds
theorem mI:∀ ds:List Dt,eqL ds ds=true
 | []=>by unfold eqL;rfl
 | d :: ds=>by unfold eqL;rw [aDC d,mI ds];rfl
end
theorem nH:∀ {ds es:List Dt},eqL ds es=true->ds.length=es.length
 | [],[],_=>rfl
 | [],_ :: _,h=>by unfold eqL at h;cases h
 | _ :: _,[],h=>by unfold eqL at h;cases h
 | d :: ds,e :: es,h=>by
  unfold eqL at h
  rw [cw,cw,nH (ua.mp h).2]
theorem kX (n:Nat)(f:Nat->Bool):(ar (n+1)).all f=(f 0 && (ar n).all fun j=>f (j+1)):=by
 rw [qz,qo,List.all_map]
 rfl
theorem qH:∀ (ds es:List Dt),((ar (min ds.length es.length)).all (fun j=>eqD (ds.getD j .non) (es.getD j .non)) && ds.length == es.length)=eqL ds es
 | [],[]=>by unfold eqL;rfl
 | [],e :: es=>by unfold eqL;simp
 | d :: ds,[]=>by unfold eqL;simp
 | d :: ds,e :: es=>by
  have ih:=qH ds es
  unfold eqL
  rw [<- ih,cw,cw,Nat.succ_min_succ,kX,Bool.and_assoc]
  congr 1
  congr 1
  simp
theorem tH {ds:List Dt}{j:Nat}{d:Dt}(h:ds[j]?=some d):dep d<=wZ ds:=by
 induction ds generalizing j with
 | nil=>simp at h
 | cons e es ih=>
  unfold wZ
  cases j with
  | zero=>
   have:e=d:=by simpa using h
   subst this
   exact Nat.le_max_left _ _
  | succ j=>exact et (ih (by simpa using h)) (Nat.le_max_right _ _)
section
variable {X:Cx}{pins:List (Addr × Obj)}{σ:St}{H:Hp}{s:Shared}
theorem Inv.tl_ne (I:Inv X pins σ H s){a:Addr}{xs ys:List V}(h:SqT X.K H a xs)(h':SqL X.K H a ys):False:=by
 obtain ⟨its,r,⟨o,e,c,n,d⟩,_⟩:=I.tuple h
 obtain ⟨its',r',⟨o',n',e',c',_,d'⟩,_⟩:=I.list h'
 rw [e] at e';cases e'
 rw [c] at c';simp at c'
mutual
theorem Inv.sh_inj (I:Inv X pins σ H s):∀ {d e:Dt} {v:V},Sh X.K H d v->Sh X.K H e v->d=e
 | .non,e,v,h,h'=>by
  have h:v = .non:=h
  subst h
  cases e <;> first | rfl | (exact absurd (show V.non=_ from h') (fun z=>nomatch z)) | (obtain ⟨_,_,z,_⟩:=h';cases z)
 | .bl b,e,v,h,h'=>by
  have h:v = .bl b:=h
  subst h
  cases e <;> first | (cases (show V.bl b=V.bl _ from h');rfl) | (exact absurd (show V.bl b=_ from h') (fun z=>nomatch z)) | (obtain ⟨_,_,z,_⟩:=h';cases z)
 | .int b,e,v,h,h'=>by
  have h:v = .int b:=h
  subst h
  cases e <;> first | (cases (show V.int b=V.int _ from h');rfl) | (exact absurd (show V.int b=_ from h') (fun z=>nomatch z)) | (obtain ⟨_,_,z,_⟩:=h';cases z)
 | .str b,e,v,h,h'=>by
  have h:v = .str b:=h
  subst h
  cases e <;> first | (cases (show V.str b=V.str _ from h');rfl) | (exact absurd (show V.str b=_ from h') (fun z=>nomatch z)) | (obtain ⟨_,_,z,_⟩:=h';cases z)
 | .tup ds,e,v,⟨a,xs,h1,h2,h3⟩,h'=>by
  subst h1
  cases e with
  | tup es=>
   obtain ⟨a',xs',z,h2',h3'⟩:=h'
   cases z
   rw [I.tuple_inj h2' h2] at h3'
   rw [Inv.shL_inj I h3 h3']
  | lst es=>
   obtain ⟨a',xs',z,h2',h3'⟩:=h'
   cases z
   exact (I.tl_ne h2 h2').elim
  | _=>exact absurd (show V.ref a=_ from h') (fun z=>nomatch z)
 | .lst ds,e,v,⟨a,xs,h1,h2,h3⟩,h'=>by
  subst h1
  cases e with
  | lst es=>
   obtain ⟨a',xs',z,h2',h3'⟩:=h'
   cases z
   rw [I.list_inj h2' h2] at h3'
   rw [Inv.shL_inj I h3 h3']
  | tup es=>
   obtain ⟨a',xs',z,h2',h3'⟩:=h'
   cases z
   exact (I.tl_ne h2' h2).elim
  | _=>exact absurd (show V.ref a=_ from h') (fun z=>nomatch z)
theorem Inv.shL_inj (I:Inv X pins σ H s):∀ {ds es:List Dt} {xs:List V},ShL X.K H ds xs->ShL X.K H es xs->ds=es
 | [],[],_,_,_=>rfl
 | [],e :: es,_,h,⟨x,r,h1,_⟩=>by rw [show _=[] from h] at h1;cases h1
 | d :: ds,[],_,⟨x,r,h1,_⟩,h=>by rw [show _=[] from h] at h1;cases h1
 | d :: ds,e :: es,_,⟨x,r,h1,h2,h3⟩,⟨x',r',h1',h2',h3'⟩=>by
  rw [h1] at h1'
  cases h1'
  rw [Inv.sh_inj I h2 h2',Inv.shL_inj I h3 h3']
end
end
section
variable {X:Cx}{pins:List (Addr × Obj)}{σ:St}{H:Hp}{s:Shared}
open PySem.SeqAt
theorem pD {ds es:List Dt}{xs ys:List V}{us vs:List Value}(hs:ShL X.K H ds xs)(hr:Vals xs us)(hs':ShL X.K H es ys)(hr':Vals ys vs){A:Around}
  (h:∀ (d e:Dt) (x y:V) (u v:Value),(∃ j:Nat,ds[j]?=some d)->RelV x u->RelV y v->Sh X.K H d x->Sh X.K H e y->EqAt A s u v (eqD d e)) :
  ∀ j (h1:j<us.toArray.size) (h2:j<vs.toArray.size),EqAt A s us.toArray[j] vs.toArray[j] (eqD (ds.getD j .non) (es.getD j .non)):=by
 intro j h1 h2
 have l1:=hs.length
 have l2:=hr.length
 have l3:=hs'.length
 have l4:=hr'.length
 have g1:j<us.length:=by simpa using h1
 have g2:j<vs.length:=by simpa using h2
 have e1:ds[j]?=some (ds.getD j .non):=by rw [aj,ah (by omega)];rfl
 have e2:es[j]?=some (es.getD j .non):=by rw [aj,ah (by omega)];rfl
 obtain ⟨x,hx,sx⟩:=hs.get e1
 obtain ⟨y,hy,sy⟩:=hs'.get e2
 obtain ⟨u,hu,ru⟩:=hr.get hx
 obtain ⟨v,hv,rv⟩:=hr'.get hy
 have q1:us.toArray[j]=u:=by
  rw [ah g1] at hu
  simpa using hu
 have q2:vs.toArray[j]=v:=by
  rw [ah g2] at hv
  simpa using hv
 rw [q1,q2]
 exact h _ _ x y u v ⟨j,e1⟩ ru rv sx sy
theorem Inv.eq_sh (I:Inv X pins σ H s):∀ (n:Nat) (A:Around) (d e:Dt) (x y:V) (u v:Value),dep d<=n->A.units+n<cLine->RelV x u->RelV y v->Sh X.K H d x->Sh X.K H e y->RcAt A s u v (eqD d e)/\EqAt A s u v (eqD d e):=by
 intro n
 induction n with
 | zero=>
  intro A d e x y u v hd hu rx ry hx hy
  have hu0:A.units<cLine:=by omega
  cases d with
  | tup ds=>unfold dep at hd;omega
  | lst ds=>unfold dep at hd;omega
  | non=>
   obtain rfl:x = .non:=hx
   obtain rfl:u=Value.none:=rx
   cases e with
   | non=>obtain rfl:y = .non:=hy;obtain rfl:v=Value.none:=ry;unfold eqD;exact ⟨RcAt.none_none,EqAt.same _⟩
   | bl b=>obtain rfl:y = .bl b:=hy;obtain rfl:v=Value.bool b:=ry;unfold eqD;exact ⟨RcAt.none_bool b,EqAt.none_bool b⟩
   | int b=>obtain rfl:y = .int b:=hy;obtain ⟨t,rfl⟩:=ry;unfold eqD;exact ⟨RcAt.none_int b t,EqAt.none_int b t⟩
   | str b=>obtain rfl:y = .str b:=hy;obtain ⟨t,rfl⟩:=ry;unfold eqD;exact ⟨RcAt.none_str b t,EqAt.none_str b t⟩
   | tup es=>obtain ⟨b,ys,rfl,hq,_⟩:=hy;obtain rfl:v=Value.ref b:=ry;obtain ⟨its,_,p,_⟩:=I.tuple hq;unfold eqD;exact ⟨RcAt.none_tuple (show s.heap.IsTuple b its.toArray from p) hu0,EqAt.none_tuple (show s.heap.IsTuple b its.toArray from p) hu0⟩
   | lst es=>obtain ⟨b,ys,rfl,hq,_⟩:=hy;obtain rfl:v=Value.ref b:=ry;obtain ⟨its,_,p,_⟩:=I.list hq;unfold eqD;exact ⟨RcAt.none_list p.isList hu0,EqAt.none_list p.isList hu0⟩
  | bl a=>
   obtain rfl:x = .bl a:=hx
   obtain rfl:u=Value.bool a:=rx
   cases e with
   | non=>obtain rfl:y = .non:=hy;obtain rfl:v=Value.none:=ry;unfold eqD;exact ⟨RcAt.bool_none a,EqAt.bool_none a⟩
   | bl b=>obtain rfl:y = .bl b:=hy;obtain rfl:v=Value.bool b:=ry;unfold eqD;exact ⟨RcAt.bool_bool a b,EqAt.bool_bool a b⟩
   | int b=>obtain rfl:y = .int b:=hy;obtain ⟨t,rfl⟩:=ry;unfold eqD;exact ⟨RcAt.bool_int a b t,EqAt.bool_int a b t⟩
   | str b=>obtain rfl:y = .str b:=hy;obtain ⟨t,rfl⟩:=ry;unfold eqD;exact ⟨RcAt.bool_str a b t,EqAt.bool_str a b t⟩
   | tup es=>obtain ⟨b,ys,rfl,hq,_⟩:=hy;obtain rfl:v=Value.ref b:=ry;obtain ⟨its,_,p,_⟩:=I.tuple hq;unfold eqD;exact ⟨RcAt.bool_tuple a (show s.heap.IsTuple b its.toArray from p) hu0,EqAt.bool_tuple a (show s.heap.IsTuple b its.toArray from p) hu0⟩
   | lst es=>obtain ⟨b,ys,rfl,hq,_⟩:=hy;obtain rfl:v=Value.ref b:=ry;obtain ⟨its,_,p,_⟩:=I.list hq;unfold eqD;exact ⟨RcAt.bool_list a p.isList hu0,EqAt.bool_list a p.isList hu0⟩
  | int a=>
   obtain rfl:x = .int a:=hx
   obtain ⟨t0,rfl⟩:=rx
   cases e with
   | non=>obtain rfl:y = .non:=hy;obtain rfl:v=Value.none:=ry;unfold eqD;exact ⟨RcAt.int_none a t0,EqAt.int_none a t0⟩
   | bl b=>obtain rfl:y = .bl b:=hy;obtain rfl:v=Value.bool b:=ry;unfold eqD;exact ⟨RcAt.int_bool a t0 b,EqAt.int_bool a t0 b⟩
   | int b=>obtain rfl:y = .int b:=hy;obtain ⟨t,rfl⟩:=ry;unfold eqD;exact ⟨RcAt.int_int a t0 b t,EqAt.int_int a t0 b t⟩
   | str b=>obtain rfl:y = .str b:=hy;obtain ⟨t,rfl⟩:=ry;unfold eqD;exact ⟨RcAt.int_str a t0 b t,EqAt.int_str a t0 b t⟩
   | tup es=>obtain ⟨b,ys,rfl,hq,_⟩:=hy;obtain rfl:v=Value.ref b:=ry;obtain ⟨its,_,p,_⟩:=I.tuple hq;unfold eqD;exact ⟨RcAt.int_tuple a t0 (show s.heap.IsTuple b its.toArray from p) hu0,EqAt.int_tuple a t0 (show s.heap.IsTuple b its.toArray from p) hu0⟩
   | lst es=>obtain ⟨b,ys,rfl,hq,_⟩:=hy;obtain rfl:v=Value.ref b:=ry;obtain ⟨its,_,p,_⟩:=I.list hq;unfold eqD;exact ⟨RcAt.int_list a t0 p.isList hu0,EqAt.int_list a t0 p.isList hu0⟩
  | str a=>
   obtain rfl:x = .str a:=hx
   obtain ⟨t0,rfl⟩:=rx
   cases e with
   | non=>obtain rfl:y = .non:=hy;obtain rfl:v=Value.none:=ry;unfold eqD;exact ⟨RcAt.str_none a t0,EqAt.str_none a t0⟩
   | bl b=>obtain rfl:y = .bl b:=hy;obtain rfl:v=Value.bool b:=ry;unfold eqD;exact ⟨RcAt.str_bool a t0 b,EqAt.str_bool a t0 b⟩
   | int b=>obtain rfl:y = .int b:=hy;obtain ⟨t,rfl⟩:=ry;unfold eqD;exact ⟨RcAt.str_int a t0 b t,EqAt.str_int a t0 b t⟩
   | str b=>obtain rfl:y = .str b:=hy;obtain ⟨t,rfl⟩:=ry;unfold eqD;exact ⟨RcAt.str_str a t0 b t,EqAt.str_str a t0 b t⟩
   | tup es=>obtain ⟨b,ys,rfl,hq,_⟩:=hy;obtain rfl:v=Value.ref b:=ry;obtain ⟨its,_,p,_⟩:=I.tuple hq;unfold eqD;exact ⟨RcAt.str_tuple a t0 (show s.heap.IsTuple b its.toArray from p) hu0,EqAt.str_tuple a t0 (show s.heap.IsTuple b its.toArray from p) hu0⟩
   | lst es=>obtain ⟨b,ys,rfl,hq,_⟩:=hy;obtain rfl:v=Value.ref b:=ry;obtain ⟨its,_,p,_⟩:=I.list hq;unfold eqD;exact ⟨RcAt.str_list a t0 p.isList hu0,EqAt.str_list a t0 p.isList hu0⟩
 | succ n ih=>
  intro A d e x y u v hd hu rx ry hx hy
  have hu0:A.units<cLine:=by omega
  by_cases hd0:dep d<=n
  ·exact ih A d e x y u v hd0 (by omega) rx ry hx hy
  cases d with
  | non=>exact absurd (bh _) hd0
  | bl a=>exact absurd (bh _) hd0
  | int a=>exact absurd (bh _) hd0
  | str a=>exact absurd (bh _) hd0
  | tup ds=>
   have hdd:wZ ds<=n:=by unfold dep at hd;omega
   have hx0:=hx
   obtain ⟨a,xs,rfl,hq,hl⟩:=hx
   obtain rfl:u=Value.ref a:=rx
   obtain ⟨its,rv,p,_⟩:=I.tuple hq
   have p:s.heap.IsTuple a its.toArray:=p
   cases e with
   | non=>obtain rfl:y = .non:=hy;obtain rfl:v=Value.none:=ry;unfold eqD;exact ⟨RcAt.tuple_none p hu0,EqAt.tuple_none p hu0⟩
   | bl b=>obtain rfl:y = .bl b:=hy;obtain rfl:v=Value.bool b:=ry;unfold eqD;exact ⟨RcAt.tuple_bool b p hu0,EqAt.tuple_bool b p hu0⟩
   | int b=>obtain rfl:y = .int b:=hy;obtain ⟨t,rfl⟩:=ry;unfold eqD;exact ⟨RcAt.tuple_int b t p hu0,EqAt.tuple_int b t p hu0⟩
   | str b=>obtain rfl:y = .str b:=hy;obtain ⟨t,rfl⟩:=ry;unfold eqD;exact ⟨RcAt.tuple_str b t p hu0,EqAt.tuple_str b t p hu0⟩
   | lst es=>obtain ⟨b,ys,rfl,hq',_⟩:=hy;obtain rfl:v=Value.ref b:=ry;obtain ⟨its',_,p',_⟩:=I.list hq';unfold eqD;exact ⟨RcAt.tuple_list p p'.isList hu0,EqAt.tuple_list p p'.isList hu0⟩
   | tup es=>
    have hy0:=hy
    obtain ⟨b,ys,rfl,hq',hl'⟩:=hy
    obtain rfl:v=Value.ref b:=ry
    obtain ⟨its',rv',p',_⟩:=I.tuple hq'
    have p':s.heap.IsTuple b its'.toArray:=p'
    have he:=pD (A:=A.in1) (s:=s) hl rv hl' rv' (fun d e x y u v ⟨j,hj⟩ r1 r2 s1 s2=>(ih A.in1 d e x y u v (et (tH hj) hdd) (by show A.units+1+n<cLine;omega) r1 r2 s1 s2).2)
    have rc:=RcAt.tuples p p' hu0 he
    have l1:=hl.length
    have l2:=rv.length
    have l3:=hl'.length
    have l4:=rv'.length
    rw [aq,aq,<- l2,<- l4,<- l1,<- l3,qH] at rc
    unfold eqD
    refine ⟨rc,?_⟩
    by_cases hab:a=b
    ·subst hab
     have:=I.sh_inj hx0 hy0
     cases this
     rw [mI]
     exact EqAt.same _
    ·exact EqAt.of_refs hab rc
  | lst ds=>
   have hdd:wZ ds<=n:=by unfold dep at hd;omega
   have hx0:=hx
   obtain ⟨a,xs,rfl,hq,hl⟩:=hx
   obtain rfl:u=Value.ref a:=rx
   obtain ⟨its,rv,p,_⟩:=I.list hq
   have p:=p.isList
   cases e with
   | non=>obtain rfl:y = .non:=hy;obtain rfl:v=Value.none:=ry;unfold eqD;exact ⟨RcAt.list_none p hu0,EqAt.list_none p hu0⟩
   | bl b=>obtain rfl:y = .bl b:=hy;obtain rfl:v=Value.bool b:=ry;unfold eqD;exact ⟨RcAt.list_bool b p hu0,EqAt.list_bool b p hu0⟩
   | int b=>obtain rfl:y = .int b:=hy;obtain ⟨t,rfl⟩:=ry;unfold eqD;exact ⟨RcAt.list_int b t p hu0,EqAt.list_int b t p hu0⟩
   | str b=>obtain rfl:y = .str b:=hy;obtain ⟨t,rfl⟩:=ry;unfold eqD;exact ⟨RcAt.list_str b t p hu0,EqAt.list_str b t p hu0⟩
   | tup es=>obtain ⟨b,ys,rfl,hq',_⟩:=hy;obtain rfl:v=Value.ref b:=ry;obtain ⟨its',_,p',_⟩:=I.tuple hq';unfold eqD;exact ⟨RcAt.list_tuple p (show s.heap.IsTuple b its'.toArray from p') hu0,EqAt.list_tuple p (show s.heap.IsTuple b its'.toArray from p') hu0⟩
   | lst es=>
    have hy0:=hy
    obtain ⟨b,ys,rfl,hq',hl'⟩:=hy
    obtain rfl:v=Value.ref b:=ry
    obtain ⟨its',rv',p',_⟩:=I.list hq'
    have p':=p'.isList
    have l1:=hl.length
    have l2:=rv.length
    have l3:=hl'.length
    have l4:=rv'.length
    have rc:RcAt A s (.ref a) (.ref b) (eqL ds es):=by
     by_cases hz:ds.length=es.length
     ·have he:=pD (A:=A.in1) (s:=s) hl rv hl' rv' (fun d e x y u v ⟨j,hj⟩ r1 r2 s1 s2=>(ih A.in1 d e x y u v (et (tH hj) hdd) (by show A.units+1+n<cLine;omega) r1 r2 s1 s2).2)
      have rc:=RcAt.lists p p' (by rw [aq,aq];omega) hu0 he
      rw [aq,<- l2,<- l1] at rc
      have q:=qH ds es
      rw [<- hz,Nat.min_self,beq_self_eq_true,Bool.and_true] at q
      rw [<- q]
      exact rc
     ·have q:eqL ds es=false:=by
       cases q:eqL ds es with
       | false=>rfl
       | true=>exact absurd (nH q) hz
      rw [q]
      exact RcAt.lists_lengths p p' (by rw [aq,aq];simp;omega) hu0
    unfold eqD
    refine ⟨rc,?_⟩
    by_cases hab:a=b
    ·subst hab
     have:=I.sh_inj hx0 hy0
     cases this
     rw [mI]
     exact EqAt.same _
    ·exact EqAt.of_refs hab rc
def gX (K:ae):R2:=fun x y H Q=>∃ d e,dep d<=100/\Sh K H d x/\Sh K H e y/\Q (.bl (eqD d e)) H
theorem aHi (hu:X.A.units+100<cLine):OpR X (i7 .Eq) (gX X.K):=by
 intro pins s σ H x y v u Q I rx ry ⟨d,e,hd,hx,hy,q⟩
 exact (I.eq_sh 100 X.A d e x y v u hd hu rx ry hx hy).1 X.prog X.w X.xe _ ⟨.bl _,H,I,rfl,q⟩
end
section
variable {X:Cx}{pins:List (Addr × Obj)}{σ:St}{H:Hp}{s:Shared}
open PySem.SeqAt
theorem Inv.ne_sh (I:Inv X pins σ H s){A:Around}(d e:Dt)(x y:V)(u v:Value)(hd:dep d<=100)(hu:A.units+101<cLine)(rx:RelV x u)(ry:RelV y v)(hx:Sh X.K H d x)(hy:Sh X.K H e y):RcNeAt A s u v (!eqD d e):=by
 have hu0:A.units<cLine:=by omega
 cases d with
 | non=>
  obtain rfl:x = .non:=hx
  obtain rfl:u=Value.none:=rx
  cases e with
  | non=>obtain rfl:y = .non:=hy;obtain rfl:v=Value.none:=ry;unfold eqD;exact RcNeAt.none_none
  | bl b=>obtain rfl:y = .bl b:=hy;obtain rfl:v=Value.bool b:=ry;unfold eqD;exact RcNeAt.none_bool b
  | int b=>obtain rfl:y = .int b:=hy;obtain ⟨t,rfl⟩:=ry;unfold eqD;exact RcNeAt.none_int b t
  | str b=>obtain rfl:y = .str b:=hy;obtain ⟨t,rfl⟩:=ry;unfold eqD;exact RcNeAt.none_str b t
  | tup es=>obtain ⟨b,ys,rfl,hq,_⟩:=hy;obtain rfl:v=Value.ref b:=ry;obtain ⟨its,_,p,_⟩:=I.tuple hq;unfold eqD;exact RcNeAt.none_tuple (show s.heap.IsTuple b its.toArray from p) hu0
  | lst es=>obtain ⟨b,ys,rfl,hq,_⟩:=hy;obtain rfl:v=Value.ref b:=ry;obtain ⟨its,_,p,_⟩:=I.list hq;unfold eqD;exact RcNeAt.none_list p.isList hu0
 | bl a=>
  obtain rfl:x = .bl a:=hx
  obtain rfl:u=Value.bool a:=rx
  cases e with
  | non=>obtain rfl:y = .non:=hy;obtain rfl:v=Value.none:=ry;unfold eqD;exact RcNeAt.bool_none a
  | bl b=>obtain rfl:y = .bl b:=hy;obtain rfl:v=Value.bool b:=ry;unfold eqD;exact RcNeAt.bool_bool a b
  | int b=>obtain rfl:y = .int b:=hy;obtain ⟨t,rfl⟩:=ry;unfold eqD;exact RcNeAt.bool_int a b t
  | str b=>obtain rfl:y = .str b:=hy;obtain ⟨t,rfl⟩:=ry;unfold eqD;exact RcNeAt.bool_str a b t
  | tup es=>obtain ⟨b,ys,rfl,hq,_⟩:=hy;obtain rfl:v=Value.ref b:=ry;obtain ⟨its,_,p,_⟩:=I.tuple hq;unfold eqD;exact RcNeAt.bool_tuple a (show s.heap.IsTuple b its.toArray from p) hu0
  | lst es=>obtain ⟨b,ys,rfl,hq,_⟩:=hy;obtain rfl:v=Value.ref b:=ry;obtain ⟨its,_,p,_⟩:=I.list hq;unfold eqD;exact RcNeAt.bool_list a p.isList hu0
 | int a=>
  obtain rfl:x = .int a:=hx
  obtain ⟨t0,rfl⟩:=rx
  cases e with
  | non=>obtain rfl:y = .non:=hy;obtain rfl:v=Value.none:=ry;unfold eqD;exact RcNeAt.int_none a t0
  | bl b=>obtain rfl:y = .bl b:=hy;obtain rfl:v=Value.bool b:=ry;unfold eqD;exact RcNeAt.int_bool a t0 b
  | int b=>obtain rfl:y = .int b:=hy;obtain ⟨t,rfl⟩:=ry;unfold eqD;exact RcNeAt.int_int a t0 b t
  | str b=>obtain rfl:y = .str b:=hy;obtain ⟨t,rfl⟩:=ry;unfold eqD;exact RcNeAt.int_str a t0 b t
  | tup es=>obtain ⟨b,ys,rfl,hq,_⟩:=hy;obtain rfl:v=Value.ref b:=ry;obtain ⟨its,_,p,_⟩:=I.tuple hq;unfold eqD;exact RcNeAt.int_tuple a t0 (show s.heap.IsTuple b its.toArray from p) hu0
  | lst es=>obtain ⟨b,ys,rfl,hq,_⟩:=hy;obtain rfl:v=Value.ref b:=ry;obtain ⟨its,_,p,_⟩:=I.list hq;unfold eqD;exact RcNeAt.int_list a t0 p.isList hu0
 | str a=>
  obtain rfl:x = .str a:=hx
  obtain ⟨t0,rfl⟩:=rx
  cases e with
  | non=>obtain rfl:y = .non:=hy;obtain rfl:v=Value.none:=ry;unfold eqD;exact RcNeAt.str_none a t0
  | bl b=>obtain rfl:y = .bl b:=hy;obtain rfl:v=Value.bool b:=ry;unfold eqD;exact RcNeAt.str_bool a t0 b
  | int b=>obtain rfl:y = .int b:=hy;obtain ⟨t,rfl⟩:=ry;unfold eqD;exact RcNeAt.str_int a t0 b t
  | str b=>obtain rfl:y = .str b:=hy;obtain ⟨t,rfl⟩:=ry;unfold eqD;exact RcNeAt.str_str a t0 b t
  | tup es=>obtain ⟨b,ys,rfl,hq,_⟩:=hy;obtain rfl:v=Value.ref b:=ry;obtain ⟨its,_,p,_⟩:=I.tuple hq;unfold eqD;exact RcNeAt.str_tuple a t0 (show s.heap.IsTuple b its.toArray from p) hu0
  | lst es=>obtain ⟨b,ys,rfl,hq,_⟩:=hy;obtain rfl:v=Value.ref b:=ry;obtain ⟨its,_,p,_⟩:=I.list hq;unfold eqD;exact RcNeAt.str_list a t0 p.isList hu0
 | tup ds=>
  have hdd:wZ ds<=100:=by unfold dep at hd;omega
  obtain ⟨a,xs,rfl,hq,hl⟩:=hx
  obtain rfl:u=Value.ref a:=rx
  obtain ⟨its,rv,p,_⟩:=I.tuple hq
  have p:s.heap.IsTuple a its.toArray:=p
  cases e with
  | non=>obtain rfl:y = .non:=hy;obtain rfl:v=Value.none:=ry;unfold eqD;exact RcNeAt.tuple_none p hu0
  | bl b=>obtain rfl:y = .bl b:=hy;obtain rfl:v=Value.bool b:=ry;unfold eqD;exact RcNeAt.tuple_bool b p hu0
  | int b=>obtain rfl:y = .int b:=hy;obtain ⟨t,rfl⟩:=ry;unfold eqD;exact RcNeAt.tuple_int b t p hu0
  | str b=>obtain rfl:y = .str b:=hy;obtain ⟨t,rfl⟩:=ry;unfold eqD;exact RcNeAt.tuple_str b t p hu0
  | lst es=>obtain ⟨b,ys,rfl,hq',_⟩:=hy;obtain rfl:v=Value.ref b:=ry;obtain ⟨its',_,p',_⟩:=I.list hq';unfold eqD;exact RcNeAt.tuple_list p p'.isList hu0
  | tup es=>
   obtain ⟨b,ys,rfl,hq',hl'⟩:=hy
   obtain rfl:v=Value.ref b:=ry
   obtain ⟨its',rv',p',_⟩:=I.tuple hq'
   have p':s.heap.IsTuple b its'.toArray:=p'
   have he:=pD (A:=A.in1) (s:=s) hl rv hl' rv' (fun d e x y u v ⟨j,hj⟩ r1 r2 s1 s2=>(I.eq_sh 100 A.in1 d e x y u v (et (tH hj) hdd) (by show A.units+1+100<cLine;omega) r1 r2 s1 s2).2)
   have rc:=RcNeAt.tuples p p' hu0 he
   have l1:=hl.length
   have l2:=rv.length
   have l3:=hl'.length
   have l4:=rv'.length
   rw [aq,aq,<- l2,<- l4,<- l1,<- l3,qH] at rc
   unfold eqD
   exact rc
 | lst ds=>
  have hdd:wZ ds<=100:=by unfold dep at hd;omega
  obtain ⟨a,xs,rfl,hq,hl⟩:=hx
  obtain rfl:u=Value.ref a:=rx
  obtain ⟨its,rv,p,_⟩:=I.list hq
  have p:=p.isList
  cases e with
  | non=>obtain rfl:y = .non:=hy;obtain rfl:v=Value.none:=ry;unfold eqD;exact RcNeAt.list_none p hu0
  | bl b=>obtain rfl:y = .bl b:=hy;obtain rfl:v=Value.bool b:=ry;unfold eqD;exact RcNeAt.list_bool b p hu0
  | int b=>obtain rfl:y = .int b:=hy;obtain ⟨t,rfl⟩:=ry;unfold eqD;exact RcNeAt.list_int b t p hu0
  | str b=>obtain rfl:y = .str b:=hy;obtain ⟨t,rfl⟩:=ry;unfold eqD;exact RcNeAt.list_str b t p hu0
  | tup es=>obtain ⟨b,ys,rfl,hq',_⟩:=hy;obtain rfl:v=Value.ref b:=ry;obtain ⟨its',_,p',_⟩:=I.tuple hq';unfold eqD;exact RcNeAt.list_tuple p (show s.heap.IsTuple b its'.toArray from p') hu0
  | lst es=>
   obtain ⟨b,ys,rfl,hq',hl'⟩:=hy
   obtain rfl:v=Value.ref b:=ry
   obtain ⟨its',rv',p',_⟩:=I.list hq'
   have p':=p'.isList
   have l1:=hl.length
   have l2:=rv.length
   have l3:=hl'.length
   have l4:=rv'.length
   unfold eqD
   by_cases hz:ds.length=es.length
   ·have he:=pD (A:=A.in1) (s:=s) hl rv hl' rv' (fun d e x y u v ⟨j,hj⟩ r1 r2 s1 s2=>(I.eq_sh 100 A.in1 d e x y u v (et (tH hj) hdd) (by show A.units+1+100<cLine;omega) r1 r2 s1 s2).2)
    have rc:=RcNeAt.lists p p' (by rw [aq,aq];omega) hu0 he
    rw [aq,<- l2,<- l1] at rc
    have q:=qH ds es
    rw [<- hz,Nat.min_self,beq_self_eq_true,Bool.and_true] at q
    rw [<- q]
    exact rc
   ·have q:eqL ds es=false:=by
     cases q:eqL ds es with
     | false=>rfl
     | true=>exact absurd (nH q) hz
    rw [q]
    exact RcNeAt.lists_lengths p p' (by rw [aq,aq];simp;omega) hu0
def xH (K:ae):R2:=fun x y H Q=>∃ d e,dep d<=100/\Sh K H d x/\Sh K H e y/\Q (.bl (!eqD d e)) H
theorem aHf (hu:X.A.units+101<cLine):OpR X (i7 .NotEq) (xH X.K):=by
 intro pins s σ H x y v u Q I rx ry ⟨d,e,hd,hx,hy,q⟩
 exact (I.ne_sh d e x y v u hd hu rx ry hx hy) X.prog X.w X.xe _ ⟨.bl _,H,I,rfl,q⟩
def aGY:Dt->String->Bool
 | .non,_=>false
 | .bl _,T=>T == "bool" || T == "int"
 | .int _,T=>T == "int"
 | .str _,T=>T == "str"
 | .tup _,T=>T == "tuple"
 | .lst _,T=>T == "list"
def aDy (K:ae):List V->Hp->VK->Prop:=fun vs H Q=>∃ x d T,vs=[x, .ty T]/\(T="int"\/T="bool"\/T="tuple"\/T="list"\/T="str")/\Sh K H d x/\Q (.bl (aGY d T)) H
theorem aDW:CallR X (.builtin "isinstance") (aDy X.K):=by
 intro pins s σ H xs us Q I r ⟨x,d,T,e,hT,hx,q⟩
 subst e
 obtain ⟨u,w',rfl,rx,rt⟩:=r.two
 obtain rfl:w'=Value.type T:=rt
 have fin:∀ (b:Bool) (t:Nat),aGY d T=b->EP X pins σ Q (.bool b) { s with toks:=t }:=fun b t e=>⟨.bl b,H,I.tok t,rfl,by rw [<- e];exact q⟩
 have fin0:∀ (b:Bool),aGY d T=b->EP X pins σ Q (.bool b) s:=fun b e=>⟨.bl b,H,I,rfl,by rw [<- e];exact q⟩
 cases d with
 | non=>
  obtain rfl:x = .non:=hx
  obtain rfl:u=Value.none:=rx
  rcases hT with rfl | rfl | rfl | rfl | rfl
  ·exact IsiPair.NoneType_int (fin _ _ rfl)
  ·exact IsiPair.NoneType_bool (fin _ _ rfl)
  ·exact IsiPair.NoneType_tuple (fin _ _ rfl)
  ·exact IsiPair.NoneType_list (fin _ _ rfl)
  ·exact IsiPair.NoneType_str (fin _ _ rfl)
 | bl b=>
  obtain rfl:x = .bl b:=hx
  obtain rfl:u=Value.bool b:=rx
  rcases hT with rfl | rfl | rfl | rfl | rfl
  ·exact IsiPair.bool_int (fin0 _ rfl)
  ·exact IsiPair.bool_bool (fin0 _ rfl)
  ·exact IsiPair.bool_tuple (fin _ _ rfl)
  ·exact IsiPair.bool_list (fin _ _ rfl)
  ·exact IsiPair.bool_str (fin _ _ rfl)
 | int b=>
  obtain rfl:x = .int b:=hx
  obtain ⟨t,rfl⟩:=rx
  rcases hT with rfl | rfl | rfl | rfl | rfl
  ·exact IsiPair.int_int (fin0 _ rfl)
  ·exact IsiPair.int_bool (fin _ _ rfl)
  ·exact IsiPair.int_tuple (fin _ _ rfl)
  ·exact IsiPair.int_list (fin _ _ rfl)
  ·exact IsiPair.int_str (fin _ _ rfl)
 | str b=>
  obtain rfl:x = .str b:=hx
  obtain ⟨t,rfl⟩:=rx
  rcases hT with rfl | rfl | rfl | rfl | rfl
  ·exact IsiPair.str_int (fin _ _ rfl)
  ·exact IsiPair.str_bool (fin _ _ rfl)
  ·exact IsiPair.str_tuple (fin _ _ rfl)
  ·exact IsiPair.str_list (fin _ _ rfl)
  ·exact IsiPair.str_str (fin0 _ rfl)
 | tup ds=>
  obtain ⟨a,ys,rfl,hq,_⟩:=hx
  obtain rfl:u=Value.ref a:=rx
  obtain ⟨its,_,⟨o,ho,hc,_⟩,_⟩:=I.tuple hq
  rcases hT with rfl | rfl | rfl | rfl | rfl
  ·exact IsiPair.tuple_int ho hc (fin _ _ rfl)
  ·exact IsiPair.tuple_bool ho hc (fin _ _ rfl)
  ·exact IsiPair.tuple_tuple ho hc (fin0 _ rfl)
  ·exact IsiPair.tuple_list ho hc (fin _ _ rfl)
  ·exact IsiPair.tuple_str ho hc (fin _ _ rfl)
 | lst ds=>
  obtain ⟨a,ys,rfl,hq,_⟩:=hx
  obtain rfl:u=Value.ref a:=rx
  obtain ⟨its,_,p,_⟩:=I.list hq
  obtain ⟨o,ho,hc,_⟩:=p.isList
  rcases hT with rfl | rfl | rfl | rfl | rfl
  ·exact IsiPair.list_int ho hc (fin _ _ rfl)
  ·exact IsiPair.list_bool ho hc (fin _ _ rfl)
  ·exact IsiPair.list_tuple ho hc (fin _ _ rfl)
  ·exact IsiPair.list_list ho hc (fin0 _ rfl)
  ·exact IsiPair.list_str ho hc (fin _ _ rfl)
theorem xW {prog:Program}{w:World}{A:Around}(hh:A.handled=none)(It ax:Addr)(hne:ax≠It)(items:Array Value) :
  Walks prog w A It [It,ax] [It] items.size (fun i v=>items[i]?=some v) (fun i h=>h.IsTupleIter It ax i/\h.IsTuple ax items) where
 sub:=fun b hb=>by simp at hb;simp [hb]
 frame:=fun _ _ _ st hk=>⟨st.1.at fun o e=>hk It (by simp) o e,let ⟨o,e,r⟩:=st.2;⟨o,hk ax (by simp) o e,r⟩⟩
 item:=fun i s Q E hi st hQ=>by
  refine xc st.1 st.2 (x:=items[i]) (by simp [hi]) fun h' hit' hs'=>?_
  refine hQ _ h' s.toks (by simp [hi]) ⟨hit',?_⟩ fun b o hb e=>hs'.extBut b o (fun h=>hb (by simp [h])) e
  obtain ⟨o,e,r⟩:=st.2
  exact ⟨o,hs'.extBut _ _ hne e,r⟩
 done:=fun s Q E st hQ=>ya hh st.1 st.2 (by simp) fun h' he'=>hQ h' s.toks fun b o hb e=>he' b o (fun h=>hb (by simp [h])) e
 self:=fun _ _ _ _ st hQ=>yc st.1 hQ
def Sq (K:ae) (H:Hp) (a:Addr) (xs:List V):Prop:=SqL K H a xs\/SqT K H a xs
theorem pG {A:Around}{a:Addr}{xs:List V}{Q:Value->Shared->Prop}{E:Value->Shared->Prop}(hh:A.handled=none)(I:Inv X pins σ H s)(h:Sq X.K H a xs)
  (hq:∀ (its:List Value) (It:Addr) (fp wr:List Addr) (S:Nat->Heap->Prop) (s2:Shared),Vals xs its->xs.length<=ba->Walks X.prog X.w A It fp wr its.length (fun i v=>its[i]?=some v) S->S 0 s2.heap->(∀ b∈fp,b<s2.heap.objs.size) ->
   (∀ h' tk,(∀ b o,b∉wr->s2.heap.get? b=some o->h'.get? b=some o)->Inv X pins σ H { s2 with heap:=h',toks:=tk })->Q (.ref It) s2):wpAny (model X.prog X.w) A (AR (.ref a)) Q E s:=by
 rcases h with h | h
 ·obtain ⟨its,rv,p,hz⟩:=I.list h
  refine rh p.isList ?_
  have ha:a<s.heap.objs.size:=by obtain ⟨o,e,_⟩:=p.isList;exact br e
  refine hq its s.heap.objs.size [s.heap.objs.size,a] [s.heap.objs.size] (fun i h=>h.IsListIter s.heap.objs.size a i/\h.IsList a its.toArray) _ rv hz (by simpa using Walks.list (prog:=X.prog) (w:=X.w) hh s.heap.objs.size a (d0 ha) its.toArray) ⟨⟨_,bp _ rfl,rfl,rfl⟩,?_⟩ (fun b hb=>?_) fun h' tk hk=>?_
  ·obtain ⟨o,e,r⟩:=p.isList
   exact ⟨o,ao _ e,r⟩
  ·simp at hb
   show b<(s.heap.push _).objs.size
   rw [jc]
   rcases hb with rfl | rfl
   ·exact nc _
   ·exact jm ha
  ·exact I.kept fun b o e=>hk b o (by simpa using d0 (br e)) (ao _ e)
 ·obtain ⟨its,rv,p,hz⟩:=I.tuple h
  have p:s.heap.IsTuple a its.toArray:=p
  refine vn p ?_
  have ha:a<s.heap.objs.size:=by obtain ⟨o,e,_⟩:=p;exact br e
  refine hq its s.heap.objs.size [s.heap.objs.size,a] [s.heap.objs.size] (fun i h=>h.IsTupleIter s.heap.objs.size a i/\h.IsTuple a its.toArray) _ rv hz (by simpa using xW (prog:=X.prog) (w:=X.w) hh s.heap.objs.size a (d0 ha) its.toArray) ⟨⟨_,bp _ rfl,rfl,rfl⟩,?_⟩ (fun b hb=>?_) fun h' tk hk=>?_
  ·obtain ⟨o,e,r⟩:=p
   exact ⟨o,ao _ e,r⟩
  ·simp at hb
   show b<(s.heap.push _).objs.size
   rw [jc]
   rcases hb with rfl | rfl
   ·exact nc _
   ·exact jm ha
  ·exact I.kept fun b o e=>hk b o (by simpa using d0 (br e)) (ao _ e)
theorem Vals.getR:∀ {xs:List V} {us:List Value} {i:Nat} {u:Value},Vals xs us->us[i]?=some u->∃ x,xs[i]?=some x/\RelV x u
 | _,_,_,_, .nil,e=>by simp at e
 | _,_,0,_, .cons r _,e=>by simp at e;subst e;exact ⟨_,rfl,r⟩
 | _,_,i+1,u, .cons _ t,e=>by
  obtain ⟨x,h1,h2⟩:=Vals.getR (i:=i) (u:=u) t (by simpa using e)
  exact ⟨x,by simpa using h1,h2⟩
theorem aDX (hc:X.calm=true):CallR X (.builtin "all") (fun vs H Q=>∃ (a:Addr) (bs:List Bool),vs=[.ref a]/\Sq X.K H a (bs.map V.bl)/\Q (.bl (bs.all id)) H):=by
 intro pins s σ H xs us Q I r ⟨a,bs,e,hq,q⟩
 subst e
 obtain ⟨u,rfl,ru⟩:=r.one
 obtain rfl:u=Value.ref a:=ru
 refine call_all_walk (pG (I.ok.hd hc) I hq fun its It fp wr S s2 rv hz W st hf hI=>?_)
 refine ⟨It,fp,wr,its.length,_,S,fun j=>bs.getD j false,rfl,W,st,fun i v s' Q' E' hv hQ'=>?_,fun h' tk hk=>?_⟩
 ·obtain ⟨x,hx,rx⟩:=rv.getR hv
  rw [az] at hx
  cases hb:bs[i]? with
  | none=>rw [hb] at hx;cases hx
  | some b=>
   rw [hb] at hx
   obtain rfl:V.bl b=x:=by simpa using hx
   obtain rfl:v=Value.bool b:=rx
   have:bs.getD i false=b:=by rw [aj,hb];rfl
   have hQ':Q' (bs.getD i false) s':=hQ'
   rw [this] at hQ'
   exact ir hQ'
 ·refine ⟨.bl (bs.all id),H,hI h' tk hk,?_,q⟩
  show Value.bool _=Value.bool _
  congr 1
  have hl:its.length=bs.length:=by rw [<- rv.length,af]
  rw [hl]
  clear q hq rv hl hz
  induction bs with
  | nil=>rfl
  | cons b bs ih=>rw [cw,kX,qo];exact congrArg (fun z=>b && z) ih
theorem qA:∀ (ns:List Int) (k:Nat),k<=ns.length->preSum (fun j=>ns.getD j 0) k=(ns.take k).sum
 | ns,0,_=>by simp [preSum]
 | ns,k+1,h=>by
  have e:ns.take (k+1)=ns.take k++[ns[k]]:=by
   rw [fk,ah (by omega)];rfl
  have g:ns.getD k 0=ns[k]:=by rw [aj,ah (by omega)];rfl
  rw [preSum,qA ns k (by omega),e,List.sum_append_int,g]
  simp
theorem aEj (hc:X.calm=true):CallR X (.builtin "sum") (fun vs H Q=>∃ (a:Addr) (ns:List Int),vs=[.ref a]/\Sq X.K H a (ns.map V.int)/\Q (.int ns.sum) H):=by
 intro pins s σ H xs us Q I r ⟨a,ns,e,hq,q⟩
 subst e
 obtain ⟨u,rfl,ru⟩:=r.one
 obtain rfl:u=Value.ref a:=ru
 refine call_sum_walkG (pG (I.ok.hd hc) I hq fun its It fp wr S s2 rv hz W st hf hI=>?_)
 refine ⟨It,fp,wr,its.length,_,S,fun j=>ns.getD j 0,rfl,W,st,hf,fun i v hv=>?_,fun h' tk t' hk=>?_⟩
 ·obtain ⟨x,hx,rx⟩:=rv.getR hv
  rw [az] at hx
  cases hb:ns[i]? with
  | none=>rw [hb] at hx;cases hx
  | some b=>
   rw [hb] at hx
   obtain rfl:V.int b=x:=by simpa using hx
   obtain ⟨t,rfl⟩:=rx
   exact ⟨t,by show Value.int b t=Value.int (ns.getD i 0) t;rw [aj,hb];rfl⟩
 ·have hl:its.length=ns.length:=by rw [<- rv.length,af]
  refine ⟨.int ns.sum,H,hI h' tk hk,⟨t',?_⟩,q⟩
  rw [hl,qA ns ns.length (ay _),fz]
theorem sL {bt:Nat->Nat->Bool}:∀ k,og bt k<=k
 | 0=>ay _
 | k+1=>by
  unfold og
  split
  ·exact ay _
  ·exact Nat.le_succ_of_le (sL k)
theorem mR {ns:List Int}:∀ (k:Nat),∀ j,j<=k->ns.getD (og (fun i j=>decide (ns.getD i 0<ns.getD j 0)) k) 0<=ns.getD j 0
 | 0,j,h=>by
  have:j=0:=by omega
  subst this
  exact rj _
 | k+1,j,h=>by
  have ih:=mR (ns:=ns) k
  unfold og
  by_cases c:ns.getD (k+1) 0<ns.getD (og (fun i j=>decide (ns.getD i 0<ns.getD j 0)) k) 0
  ·rw [if_pos (decide_eq_true c)]
   by_cases e:j=k+1
   ·subst e;exact rj _
   ·have:=ih j (by omega);omega
  ·rw [if_neg (by simpa using c)]
   by_cases e:j=k+1
   ·subst e;omega
   ·exact ih j (by omega)
theorem aDD (hc:X.calm=true):CallR X (.builtin "min") (fun vs H Q=>∃ (a:Addr) (ns:List Int),vs=[.ref a]/\Sq X.K H a (ns.map V.int)/\ns≠[]/\∀ m:Int,m∈ns->(∀ k∈ns,m<=k)->Q (.int m) H):=by
 intro pins s σ H xs us Q I r ⟨a,ns,e,hq,hne,q⟩
 subst e
 obtain ⟨u,rfl,ru⟩:=r.one
 obtain rfl:u=Value.ref a:=ru
 refine call_min_walk (pG (I.ok.hd hc) I hq fun its It fp wr S s2 rv hz W st hf hI=>?_)
 have hl:its.length=ns.length:=by rw [<- rv.length,af]
 have hpos:0<ns.length:=Ae.mpr hne
 have item:∀ (i:Nat) (v:Value),its[i]?=some v->∃ t,v = .int (ns.getD i 0) t:=fun i v hv=>by
  obtain ⟨x,hx,rx⟩:=rv.getR hv
  rw [az] at hx
  cases hb:ns[i]? with
  | none=>rw [hb] at hx;cases hx
  | some b=>
   rw [hb] at hx
   obtain rfl:V.int b=x:=by simpa using hx
   obtain ⟨t,rfl⟩:=rx
   exact ⟨t,by rw [aj,hb];rfl⟩
 refine ⟨It,fp,wr,its.length,_,S,fun i j=>decide (ns.getD i 0<ns.getD j 0),rfl,W,st,hf,by omega,fun i j vi vj s' Q' E' hi hj hQ'=>?_,fun v h' tk hv hk=>?_⟩
 ·obtain ⟨t,rfl⟩:=item i vi hi
  obtain ⟨t',rfl⟩:=item j vj hj
  exact (lt_int hQ':wpAny (model X.prog X.w) X.A.in1 (i7 .Lt _ _) Q' E' s')
 ·obtain ⟨t,rfl⟩:=item _ v hv
  have hb:=sL (bt:=fun i j=>decide (ns.getD i 0<ns.getD j 0)) (its.length - 1)
  refine ⟨.int _,H,hI h' tk hk,⟨t,rfl⟩,q _ ?_ fun k hk=>?_⟩
  ·rw [aj,ah (by omega)]
   exact fb _
  ·obtain ⟨j,hj,rfl⟩:=List.mem_iff_getElem.mp hk
   have:=mR (ns:=ns) (its.length - 1) j (by omega)
   rw [aj (l:=ns) (i:=j),ah hj] at this
   exact this
end
section
variable {X:Cx}
def aGz (K:ae):R2:=fun x y H Q=>∃ a b xs ys,x = .ref a/\y = .ref b/\SqT K H a xs/\SqT K H b ys/\xs.length+ys.length<=ba /\
 ∀ p H',((p=a/\H'=H/\ys=[])\/(p=b/\H'=H/\xs=[])\/(H p=none/\H'=upd H p (.tup (xs++ys))))->SqT K H' p (xs++ys)->Same H H'->Q (.ref p) H'
theorem aJ {H:Hp}{p:Addr}(h:H p=none)(o:HO):Same H (upd H p o):=fun b u q=>by rw [aX (aR q h)];exact q
theorem aFb:OpR X (lh .Add) (aGz X.K):=by
 intro pins s σ H x y v u Q I rx ry ⟨a,b,xs,ys,ex,ey,ha,hb,hz,q⟩
 subst ex ey
 obtain rfl:v=Value.ref a:=rx
 obtain rfl:u=Value.ref b:=ry
 by_cases hx:xs=[]
 ·obtain ⟨its,r1,p1,_⟩:=I.tuple ha
  obtain ⟨its2,r2,p2,_⟩:=I.tuple hb
  have he:its=[]:=r1.nil_iff.mpr hx
  obtain ⟨⟨cls,dd,data,sl⟩,ho,hc,n,hd⟩:=id p1
  obtain ⟨⟨cls2,dd2,data2,sl2⟩,ho2,hc2,n2,hd2⟩:=id p2
  simp only at hc hd hc2 hd2
  subst hc hd hc2 hd2
  refine AS ⟨_,ho,rfl⟩ ⟨_,ho2,rfl⟩ xt Ax qy qm (qg _ _)
   (tuple_addW0 a b its.toArray its2.toArray n n2 dd dd2 sl sl2 (by simp [he])) ⟨ho,ho2,?_⟩
  exact ⟨.ref b,H,I,rfl,q b H (.inr (.inl ⟨rfl,rfl,hx⟩)) (by rw [hx];exact hb) (Same.refl H)⟩
 ·refine aFL (X:=X) pins s σ H (.ref a) (.ref b) (.ref a) (.ref b) Q I rfl rfl ⟨a,b,xs,ys,rfl,rfl,ha,hb,hx,hz,fun hy=>?_,fun hy p hp=>?_⟩
  ·exact q a H (.inl ⟨rfl,rfl,hy⟩) (by rw [hy,lx];exact ha) (Same.refl H)
  ·exact q p _ (.inr (.inr ⟨hp,rfl⟩)) (.of aF) (aJ hp _)
def bQ (K:ae):R2:=fun x y H Q=>match x,y with
 | .int i, .int j=>Q (.int (i+j)) H
 | .str i, .str j=>i.length+j.length<=ba/\Q (.str (i++j)) H
 | .ref a, .ref b=>aJk (.ref a) (.ref b) H Q\/aGz K (.ref a) (.ref b) H Q
 | _,_=>False
theorem aFq:OpR X (lh .Add) (bQ X.K):=by
 intro pins s σ H x y v u Q I rx ry h
 unfold bQ at h
 split at h
 ·exact aGX (X:=X) pins s σ H _ _ v u Q I rx ry ⟨_,_,rfl,rfl,h⟩
 ·exact aAz (X:=X) pins s σ H _ _ v u Q I rx ry ⟨_,_,rfl,rfl,h.1,h.2⟩
 ·rcases h with h | h
  ·exact aGE (X:=X) pins s σ H _ _ v u Q I rx ry h
  ·exact aFb (X:=X) pins s σ H _ _ v u Q I rx ry h
 ·exact h.elim
theorem aIV:IxR X (fun x y H Q=>aHO X.K x y H Q\/aHY X.K x y H Q):=aFN.or aFZ
theorem Vals.of_get:∀ {xs:List V} {us:List Value},xs.length=us.length->(∀ (i:Nat) x u,xs[i]?=some x->us[i]?=some u->RelV x u)->Vals xs us
 | [],[],_,_ => .nil
 | [],_ :: _,h,_=>by simp at h
 | _ :: _,[],h,_=>by simp at h
 | x :: xs,u :: us,h,hr => .cons (hr 0 x u rfl rfl) (Vals.of_get (by simpa using h) fun i y w h1 h2=>hr (i+1) y w (by simpa using h1) (by simpa using h2))
theorem aCd:CallR X (.type "range") (fun vs H Q=>∃ n:Int,vs=[.int n]/\∀ p,H p=none->Q (.ref p) (upd H p (.rng 0 n))):=by
 intro pins s σ H xs us Q I r ⟨n,e,q⟩
 subst e
 obtain ⟨u,rfl,ru⟩:=r.one
 obtain ⟨t,rfl⟩:=ru
 refine call_range_1 ⟨.ref s.heap.objs.size,_,I.laid (a:=s.heap.objs.size) (o := .rng 0 n) (fun b o e=>ao _ e) (ay _) ⟨_,_,_,bp _ rfl⟩,rfl,q _ (I.hok.fresh (ay _))⟩
theorem aBY:CallR X (.type "range") (fun vs H Q=>∃ m n:Int,vs=[.int m, .int n]/\∀ p,H p=none->Q (.ref p) (upd H p (.rng m n))):=by
 intro pins s σ H xs us Q I r ⟨m,n,e,q⟩
 subst e
 obtain ⟨u,u',rfl,ru,ru'⟩:=r.two
 obtain ⟨t,rfl⟩:=ru
 obtain ⟨t',rfl⟩:=ru'
 refine call_range_2 ⟨.ref s.heap.objs.size,_,I.laid (a:=s.heap.objs.size) (o := .rng m n) (fun b o e=>ao _ e) (ay _) ⟨_,_,_,bp _ rfl⟩,rfl,q _ (I.hok.fresh (ay _))⟩
theorem aEc:CallR X (.type "range") (fun vs H Q=>(∃ n:Int,vs=[.int n]/\∀ p,H p=none->Q (.ref p) (upd H p (.rng 0 n)))\/∃ m n:Int,vs=[.int m, .int n]/\∀ p,H p=none->Q (.ref p) (upd H p (.rng m n))):=aCd.or aBY
def aCc (lo hi:Int):List Int:=(ar (hi - lo).toNat).map fun i:Nat=>lo+(i:Int)
theorem tQ (hc:X.calm=true):CallR X (.type "list") (fun vs H Q=>∃ (a:Addr) (lo hi:Int),vs=[.ref a]/\H a=some (.rng lo hi)/\(-(2 ^ 62)<=lo/\lo<2 ^ 62/\-(2 ^ 62)<=hi/\hi<2 ^ 62/\hi - lo<=1000000) /\
  ∀ p,H p=none->Q (.ref p) (upd H p (.lst ((aCc lo hi).map V.int)))):=by
 intro pins s σ H xs us Q I r ⟨a,lo,hi,e,ha,⟨b1,b2,b3,b4,b5⟩,q⟩
 subst e
 obtain ⟨u,rfl,ru⟩:=r.one
 obtain rfl:u=Value.ref a:=ru
 obtain ⟨t,u,v,hr⟩:=I.hok a _ ha
 refine call_list_range (a:=lo) (b:=hi) (c:=1) (n:=(hi - lo).toNat) (I.ok.hd hc) hr (small_one b1 b2 b3 b4) (by rw [rangeSize_one];split <;> omega) (by omega) fun h' tk acc' c' hk hS hI=>?_
 refine ⟨.ref s.heap.objs.size,_,I.laid (a:=s.heap.objs.size) (o := .lst ((aCc lo hi).map V.int)) hk (ay _) ⟨?_,acc'.toList,c',?_,by simpa using hS⟩,rfl,q _ (I.hok.fresh (ay _))⟩
 ·rw [af];unfold aCc;rw [af,cm]
  exact et (show (hi - lo).toNat<=1000000 by omega) (by decide)
 ·refine Vals.of_get ?_ fun i x u hx hu=>?_
  ·have el:acc'.toList.length=(hi - lo).toNat:=by rw [<- hI.1];simp
   rw [af,el];unfold aCc;rw [af,cm]
  ·obtain ⟨t,rfl⟩:=hI.2 i u (by simpa using hu)
   rw [az] at hx
   unfold aCc at hx
   rw [az] at hx
   cases hi':(ar (hi - lo).toNat)[i]? with
   | none=>rw [hi'] at hx;cases hx
   | some j=>
    rw [hi'] at hx
    have:j=i:=by
     obtain ⟨h1,h2⟩:=ai.mp hi'
     simpa using h2.symm
    subst this
    obtain rfl:V.int (lo+(j:Int))=x:=by simpa using hx
    exact ⟨t,by rw [Int.mul_one]⟩
theorem tX (hc:X.calm=true):CallR X (.type "list") (fun vs H Q=>(∃ p ys,vs=[.ref p]/\(SqL X.K H p ys\/SqT X.K H p ys)/\∀ l,H l=none->Q (.ref l) (upd H l (.lst ys))) \/
  ∃ (a:Addr) (lo hi:Int),vs=[.ref a]/\H a=some (.rng lo hi)/\(-(2 ^ 62)<=lo/\lo<2 ^ 62/\-(2 ^ 62)<=hi/\hi<2 ^ 62/\hi - lo<=1000000)/\∀ p,H p=none->Q (.ref p) (upd H p (.lst ((aCc lo hi).map V.int)))):=wH.or (tQ hc)
def lD (K:ae) (tl:TE):TI:=fun σ H R=>tl σ H fun x H1=>∃ a,x = .ref a/\(((∃ xs,SqL K H1 a xs)/\R (Itl K a) H1)\/((∃ xs,SqT K H1 a xs)/\R (Itt K a) H1))
theorem aHK {tg l:Expr}{tl:TE}(hl:PE X l tl):PI X tg l (lD X.K tl):=by
 intro pins s σ H R I h
 refine thn (hl pins s σ H _ I h) fun v s1 ⟨x,H1,I1,r1,q1⟩=>?_
 obtain ⟨a,e,q⟩:=q1
 subst e
 cases r1
 rcases q with ⟨⟨xs,hq⟩,q⟩ | ⟨⟨xs,hq⟩,q⟩
 ·obtain ⟨its,rv,p,hz⟩:=I1.list hq
  refine rh p.isList ?_
  refine ⟨s1.heap.objs.size,[s1.heap.objs.size],_,_,H1,rfl,I1.kept (t':=s1.toks) fun b o e=>ao _ e,aAZ a _,⟨_,bp _ rfl,rfl,rfl⟩,fun b hb=>?_,q⟩
  have e:b=s1.heap.objs.size:=by simpa using hb
  subst e
  exact I1.fpOk (ay _) (I1.hok.fresh (ay _))
 ·obtain ⟨its,rv,p,hz⟩:=I1.tuple hq
  refine vn (show s1.heap.IsTuple a its.toArray from p) ?_
  refine ⟨s1.heap.objs.size,[s1.heap.objs.size],_,_,H1,rfl,I1.kept (t':=s1.toks) fun b o e=>ao _ e,aAB a _,⟨_,bp _ rfl,rfl,rfl⟩,fun b hb=>?_,q⟩
  have e:b=s1.heap.objs.size:=by simpa using hb
  subst e
  exact I1.fpOk (ay _) (I1.hok.fresh (ay _))
end
structure Def (P:Program)(w:World)(K:ae)(mg:Str->Option Value)(base:Heap)(x:Str)(k:Nat)(ps:List Str)(sp:Sp):Prop where
 ex:∃ (f:Addr) (fd:FuncData),FnOk P w K mg base CX0 k f fd ps sp/\mg x=some (.ref f)/\da K (.ref f)=true/\Binds K fd ps []
theorem Def.mono {P:Program}{w:World}{K:ae}{mg:Str->Option Value}{base:Heap}{x:Str}{j k:Nat}{ps:List Str}{sp:Sp}(D:Def P w K mg base x j ps sp)(h:j<=k):Def P w K mg base x k ps sp:=by
 obtain ⟨f,fd,F,r⟩:=D.ex
 exact ⟨f,fd,F.mono h,r⟩
theorem bH {X:Cx}{x:Str}{k:Nat}{ps:List Str}{sp:Sp}{p pos:Pos}{e:Expr}{es:List Expr}{t:TA}(D:Def X.prog X.w X.K X.mg X.base x k ps sp)(hr:Room k X.A)(hg:Gl X x)(ha:PA X (e :: es) t)
  (hdb:(x == ("__debug__" : Str))=false:=by decide) (he:fm (e :: es) X.env=(false,eval e X.env) :: fm es X.env:=by rfl) (hpl:(vg pos (fm es X.env)).any (·.1)=false:=by rfl) :
  PE X (.Call (.Name x p) (e :: es) [] pos) (bG sp [] E0 t):=by
 obtain ⟨f,fd,F,hm,hk,hb⟩:=D.ex
 exact aBu F hr hg hm hk hb .nil aIG ha hdb he hpl
def SameX (acc:Addr) (H H':Hp):Prop:=∀ b o,b≠acc->H b=some o->H' b=some o
theorem SameX.refl (acc:Addr)(H:Hp):SameX acc H H:=fun _ _ _ h=>h
theorem SameX.trans {acc:Addr}{H H1 H2:Hp}(a:SameX acc H H1)(b:SameX acc H1 H2):SameX acc H H2:=fun c o n h=>b c o n (a c o n h)
theorem Same.x {acc:Addr}{H H':Hp}(e:Same H H'):SameX acc H H':=fun b o _ h=>e b o h
theorem SameX.put {acc:Addr}{H:Hp}(o:HO):SameX acc H (upd H acc o):=fun b u n h=>by rw [aX n];exact h
def Agree (vars:List Nat) (σ σ':St):Prop:=∀ k,k∉vars->σ'[k]?=σ[k]?
theorem Agree.refl (vars:List Nat)(σ:St):Agree vars σ σ:=fun _ _=>rfl
theorem Agree.trans {vars:List Nat}{σ σ1 σ2:St}(a:Agree vars σ σ1)(b:Agree vars σ1 σ2):Agree vars σ σ2:=fun k h=>(b k h).trans (a k h)
theorem Agree.set {vars:List Nat}{σ:St}{j:Nat}(h:j∈vars)(v:Option V):Agree vars σ (σ.set j v):=fun k hk=>gp (fun e:j=k=>hk (by rw [<- e];exact h))
theorem kT {σ:St}{j:Nat}{v:Option V}(h:j<σ.length):(σ.set j v)[j]?=some v:=gm h
def Emits (vars:List Nat) (tb:TS) (acc:Addr) (σ:St) (H:Hp) (L:List V):Prop:=
 ∀ (D:mJ) (pre:List V),H acc=some (.lst pre)->pre.length+L.length<=1000000->(∀ σ' H',σ'.length=σ.length->Agree vars σ σ'->SameX acc H H'->H' acc=some (.lst (pre++L))->D.nx σ' H')->tb D σ H
theorem qF {vars:List Nat}{te:TE}{acc:Addr}{σ:St}{H:Hp}{x:V}(h:∀ Q:VK,(∀ H',Same H H'->Q x H')->te σ H Q):Emits vars (eX te acc) acc σ H [x]:=by
 intro D pre ha hz hd
 refine h _ fun H' e=>⟨pre,e _ _ ha,?_,hd σ _ rfl (Agree.refl _ _) (e.x.trans (SameX.put _)) aF⟩
 exact bc (show pre.length<=1000000 by simp at hz;omega) (by decide)
theorem bI {α:Type}(f:Nat->List α)(i:Nat):(ar (i+1)).flatMap f=(ar i).flatMap f++f i:=by
 rw [List.range_succ,Af]
 simp
theorem dY {α:Type}(f:Nat->List α){i n:Nat}(h:i<=n):((ar i).flatMap f).length<=((ar n).flatMap f).length:=by
 induction h with
 | refl=>exact ay _
 | step _ ih=>rw [bI,au];omega
theorem nJ {vars:List Nat}{tb:TS}{acc:Addr}{σ:St}{H:Hp}{lo:Int}{n j:Nat}{L:Nat->List V}(hj:j∈vars)(hjl:j<σ.length)
  (h:∀ i σ' H',i<n->σ'.length=σ.length->Agree vars σ σ'->σ'[j]?=some (some (.int (lo+(i:Int))))->SameX acc H H'->(∃ pre,H' acc=some (.lst pre))->Emits vars tb acc σ' H' (L i)) :
  Emits vars (jE (Itr lo n) (aL j) tb) acc σ H ((ar n).flatMap L):=by
 intro D pre ha hz hd
 refine cZ (lo:=lo) (n:=n) (g:=aL j) (D:=D) (fun i σ' H'=>i<=n/\σ'.length=σ.length/\Agree vars σ σ'/\SameX acc H H'/\H' acc=some (.lst (pre++(ar i).flatMap L))) ⟨bh _,rfl,Agree.refl _ _,SameX.refl _ _,by simpa using ha⟩ (fun i σ1 H1 hi ⟨_,hl1,ag1,sx1,h1⟩=>?_) fun σ1 H1 ⟨_,hl1,ag1,sx1,h1⟩=>hd σ1 H1 hl1 ag1 sx1 h1
 have hle:=dY L (show i+1<=n from hi)
 rw [bI,au] at hle
 have fin:∀ σ' H',σ'.length=σ1.length->Agree vars (σ1.set j (some (.int (lo+(i:Int))))) σ'->SameX acc H1 H'->H' acc=some (.lst ((pre++(ar i).flatMap L)++L i)) ->
   (i+1<=n/\σ'.length=σ.length/\Agree vars σ σ'/\SameX acc H H'/\H' acc=some (.lst (pre++(ar (i+1)).flatMap L))):=fun σ' H' hl ag sx h2=>
  ⟨hi,hl.trans hl1,(ag1.trans (Agree.set hj _)).trans ag,sx1.trans sx,by rw [h2,bI,gg]⟩
 refine h i (σ1.set j (some (.int (lo+(i:Int))))) H1 hi (by rw [d8];exact hl1) (ag1.trans (Agree.set hj _)) (kT (by omega)) sx1 ⟨_,h1⟩ _ _ h1 (by rw [au];omega) fun σ' H' hl ag sx h2=>fin σ' H' (hl.trans (d8 ..)) ag sx h2
theorem wN {vars:List Nat}{ta:TA}{tb:TS}{acc:Addr}{σ:St}{H:Hp}{n j:Nat}{L:Nat->List V}(hj:j∈vars)(hjl:j<σ.length)(hn:n<=1000000)
  (hta:∀ Q:List V->Hp->Prop,(∀ H',Same H H'->Q [.int (n:Int)] H')->ta σ H Q)
  (h:∀ i σ' H',i<n->σ'.length=σ.length->Agree vars σ σ'->σ'[j]?=some (some (.int (i:Int)))->SameX acc H H'->(∃ pre,H' acc=some (.lst pre))->Emits vars tb acc σ' H' (L i)) :
  Emits vars (mW (lQ ta) (aL j) tb) acc σ H ((ar n).flatMap L):=by
 intro D pre ha hz hd
 refine hta _ fun H' e=>⟨(n:Int),rfl,by omega,by omega,?_⟩
 rw [dy]
 refine nJ (L:=L) hj hjl (fun i σ' H2 hi hl ag hs sx hp=>h i σ' H2 hi hl ag (by rw [hs];simp) (e.x.trans sx) hp) D pre (e _ _ ha) hz fun σ' H2 hl ag sx h2=>hd σ' H2 hl ag (e.x.trans sx) h2
theorem cI:fi "len" = some (.builtin "len"):=by decide +kernel
theorem aGS:fi "all" = some (.builtin "all"):=by decide +kernel
theorem qZ:fi "min" = some (.builtin "min"):=by decide +kernel
theorem aEp:fi "max" = some (.builtin "max"):=by decide +kernel
theorem zY:fi "sum" = some (.builtin "sum"):=by decide +kernel
theorem iB:fi "isinstance" = some (.builtin "isinstance"):=by decide +kernel
theorem iC:fi "sorted" = some (.builtin "sorted"):=by decide +kernel
theorem fA:fi "tuple" = some (.type "tuple"):=by decide +kernel
theorem jV:fi "list" = some (.type "list"):=by decide +kernel
theorem zG:fi "range" = some (.type "range"):=by decide +kernel
theorem zB:fi "int" = some (.type "int"):=by decide +kernel
theorem aFg:fi "bool" = some (.type "bool"):=by decide +kernel
structure Blt (mg:Str->Option Value):Prop where
 len:mg "len" = none
 all:mg "all" = none
 min:mg "min" = none
 max:mg "max" = none
 sum:mg "sum" = none
 isi:mg "isinstance" = none
 sorted:mg "sorted" = none
 tuple:mg "tuple" = none
 list:mg "list" = none
 range:mg "range" = none
 int:mg "int" = none
 bool:mg "bool" = none
end L2
namespace L2
open PySem
theorem aIJ {A:Around}{k:Nat}(hr:Room k A):A.units+100<cLine:=by have:=hr.un;omega
theorem aGB {A:Around}{k:Nat}(hr:Room k A):A.units+101<cLine:=by have:=hr.un;omega
end L2
namespace L2
open PySem PySem.Spec PyProof.Rows
section
variable {X:Cx}{K:ae}
theorem aU (hK:X.K=K):IxR X (fun x y H Q=>aHO K x y H Q\/aHY K x y H Q):=by subst hK;exact aIV
theorem bJ (hK:X.K=K):OpR X (lh .Add) (bQ K):=by subst hK;exact aFq
theorem fL {k:Nat}(hK:X.K=K)(hr:Room k X.A):OpR X (i7 .Eq) (gX K):=by subst hK;exact aHi (aIJ hr)
theorem jJ {k:Nat}(hK:X.K=K)(hr:Room k X.A):OpR X (i7 .NotEq) (xH K):=by subst hK;exact aHf (aGB hr)
theorem aHt (hK:X.K=K):OpR X (i7 .In) (rIn K false):=by subst hK;exact aAP
theorem aBQ (hK:X.K=K):OpR X (i7 .NotIn) (rIn K true):=by subst hK;exact vR
theorem gF (hK:X.K=K):CallR X (.builtin "isinstance") (aDy K):=by subst hK;exact aDW
def jH (K:ae):List V->Hp->VK->Prop:=fun xs H Q=>∃ p ys,xs=[.ref p]/\(SqL K H p ys\/SqT K H p ys)/\Q (.int ys.length) H
theorem aZ (hK:X.K=K):CallR X (.builtin "len") (jH K):=by subst hK;exact vT
def aJi (K:ae):List V->Hp->VK->Prop:=fun vs H Q=>∃ (a:Addr) (bs:List Bool),vs=[.ref a]/\Sq K H a (bs.map V.bl)/\Q (.bl (bs.all id)) H
theorem aBN (hK:X.K=K)(hc:X.calm=true):CallR X (.builtin "all") (aJi K):=by subst hK;exact aDX hc
def aHA (K:ae):List V->Hp->VK->Prop:=fun vs H Q=>∃ (a:Addr) (ns:List Int),vs=[.ref a]/\Sq K H a (ns.map V.int)/\Q (.int ns.sum) H
theorem mO (hK:X.K=K)(hc:X.calm=true):CallR X (.builtin "sum") (aHA K):=by subst hK;exact aEj hc
def aJe (K:ae):List V->Hp->VK->Prop:=fun vs H Q=>∃ (a:Addr) (ns:List Int),vs=[.ref a]/\Sq K H a (ns.map V.int)/\ns≠[]/\∀ m:Int,m∈ns->(∀ k∈ns,m<=k)->Q (.int m) H
theorem aBl (hK:X.K=K)(hc:X.calm=true):CallR X (.builtin "min") (aJe K):=by subst hK;exact aDD hc
def qK:List V->Hp->VK->Prop:=fun xs H Q=>∃ i j:Int,xs=[.int i, .int j]/\Q (.int (if j<i then j else i)) H
theorem kE (hc:X.calm=true):CallR X (.builtin "min") qK:=aCr hc
def aFm:List V->Hp->VK->Prop:=fun xs H Q=>∃ i j:Int,xs=[.int i, .int j]/\Q (.int (if j > i then j else i)) H
theorem sI (hc:X.calm=true):CallR X (.builtin "max") aFm:=aBT hc
def kQ (K:ae):List V->Hp->VK->Prop:=fun xs H Q=>∃ p ys,xs=[.ref p]/\((SqL K H p ys/\∀ l,H l=none->Q (.ref l) (upd H l (.tup ys)))\/(SqT K H p ys/\Q (.ref p) H))
theorem eB (hK:X.K=K):CallR X (.type "tuple") (kQ K):=by subst hK;exact tW
def xT (K:ae):List V->Hp->VK->Prop:=fun vs H Q=>(∃ p ys,vs=[.ref p]/\(SqL K H p ys\/SqT K H p ys)/\∀ l,H l=none->Q (.ref l) (upd H l (.lst ys))) \/
  ∃ (a:Addr) (lo hi:Int),vs=[.ref a]/\H a=some (.rng lo hi)/\(-(2 ^ 62)<=lo/\lo<2 ^ 62/\-(2 ^ 62)<=hi/\hi<2 ^ 62/\hi - lo<=1000000)/\∀ p,H p=none->Q (.ref p) (upd H p (.lst ((aCc lo hi).map V.int)))
theorem gB (hK:X.K=K)(hc:X.calm=true):CallR X (.type "list") (xT K):=by subst hK;exact tX hc
theorem cG {tg l:Expr}{tl:TE}(hK:X.K=K)(hl:PE X l tl):PI X tg l (lD K tl):=by subst hK;exact aHK hl
theorem dD {es:List Expr}{k:Nat}{t:TGs}{n:Nat}{pos:Pos}(hK:X.K=K)(hc:X.calm=true)(h:PGs X es t)(hn:(q9 es X.env).length=n:=by rfl)(hst:(q9 es X.env).findIdx? (·.1)=none:=by rfl):PG X (.Tuple es k pos) (qE K n t):=by
 subst hK;exact aHI hc h hn hst
end
abbrev yLt:R2:=rI0 fun i j => .bl (decide (i<j))
abbrev yLe:R2:=rI0 fun i j => .bl (decide (i<=j))
abbrev yGt:R2:=rI0 fun i j => .bl (decide (j<i))
abbrev yGe:R2:=rI0 fun i j => .bl (decide (j<=i))
abbrev iW:R2:=rI0 fun i j => .int (i - j)
abbrev xD:R2:=rI (fun _ j=>0<j) fun i j => .int (i % j)
abbrev oX:R2:=rI aJr fun i j => .int (i ^ j.toNat)
abbrev aJI:V->Hp->VK->Prop:=rU fun i => .int (-i)
abbrev bF (K:ae):R2:=fun x y H Q=>aHO K x y H Q\/aHY K x y H Q
def aIM:List V->Hp->VK->Prop:=fun vs H Q=>(∃ n:Int,vs=[.int n]/\∀ p,H p=none->Q (.ref p) (upd H p (.rng 0 n)))\/∃ m n:Int,vs=[.int m, .int n]/\∀ p,H p=none->Q (.ref p) (upd H p (.rng m n))
theorem wS {X:Cx}:CallR X (.type "range") aIM:=aEc
end L2
namespace L2
open PySem
def lH (T:List (List Int)):Dt := .tup (T.map fun r => .tup (r.map .int))
structure Quad (T:List (List Int))(n:Nat):Prop where
 len:T.length=n
 row:∀ r∈T,r.length=n
def at2 (T:List (List Int)) (i j:Nat):Int:=(T.getD i []).getD j 0
section
variable {K:ae}{H:Hp}{T:List (List Int)}{n:Nat}
theorem ShL.rows:∀ {T:List (List Int)} {rs:List V},ShL K H (T.map fun r=>Dt.tup (r.map Dt.int)) rs->rs.length=T.length/\∀ (i:Nat) (row:List Int),T[i]?=some row->∃ b,rs[i]?=some (.ref b)/\SqT K H b (row.map V.int)
 | [],rs,h=>by
  have h:rs=[]:=h
  subst h
  exact ⟨rfl,fun i row e=>by simp at e⟩
 | r :: T,rs,⟨x,rr,h1,⟨b,xs,h2,h3,h4⟩,h5⟩=>by
  obtain ⟨e,g⟩:=ShL.rows h5
  subst h1
  refine ⟨by rw [cw,cw,e],fun i row er=>?_⟩
  cases i with
  | zero=>
   have:r=row:=by simpa using er
   subst this
   exact ⟨b,by rw [h2];rfl,by rw [<- ShL.of_ints h4];exact h3⟩
  | succ i=>exact g i row (by simpa using er)
theorem Sh.tab {v:V}(h:Sh K H (lH T) v):∃ a rs,v = .ref a/\SqT K H a rs/\rs.length=T.length/\∀ (i:Nat) (row:List Int),T[i]?=some row->∃ b,rs[i]?=some (.ref b)/\SqT K H b (row.map V.int):=by
 obtain ⟨a,rs,e,hq,hl⟩:=h
 obtain ⟨e2,g⟩:=ShL.rows hl
 exact ⟨a,rs,e,hq,e2,g⟩
theorem ShL.of_rows:∀ {T:List (List Int)} {rs:List V},rs.length=T.length->(∀ (i:Nat) (row:List Int),T[i]?=some row->∃ b,rs[i]?=some (.ref b)/\SqT K H b (row.map V.int))->ShL K H (T.map fun r=>Dt.tup (r.map Dt.int)) rs
 | [],rs,h,_=>List.length_eq_zero_iff.mp h
 | r :: T,[],h,_=>by simp at h
 | r :: T,x :: rs,h,g=>by
  obtain ⟨b,e,hq⟩:=g 0 r rfl
  have e:x = .ref b:=by simpa using e
  exact ⟨x,rs,rfl,⟨b,_,e,hq,ShL.ints r⟩,ShL.of_rows (by simpa using h) fun i row er=>by
   obtain ⟨c,e2,q2⟩:=g (i+1) row (by simpa using er)
   exact ⟨c,by simpa using e2,q2⟩⟩
theorem Quad.get (q:Quad T n){i:Nat}(h:i<n):∃ row,T[i]?=some row/\row.length=n/\T.getD i []=row:=by
 have hi:i<T.length:=by rw [q.len];exact h
 refine ⟨T[i],ah hi,q.row _ (fb hi),?_⟩
 rw [aj,ah hi];rfl
theorem lA {xs:List Int}{j:Nat}(h:j<xs.length):xs[j]?=some (xs.getD j 0):=by
 rw [aj,ah h];rfl
theorem ixT {p:Addr}{xs:List V}{j:Nat}{v:V}{Q:VK}(h:SqT K H p xs)(hj:xs[j]?=some v)(q:Q v H):bF K (.ref p) (.int (j:Int)) H Q := .inr ⟨p,xs,j,v,rfl,rfl,h,aBW hj,q⟩
theorem ixL {p:Addr}{xs:List V}{j:Nat}{v:V}{Q:VK}(h:SqL K H p xs)(hj:xs[j]?=some v)(q:Q v H):bF K (.ref p) (.int (j:Int)) H Q := .inl ⟨p,xs,j,v,rfl,rfl,h,aBW hj,q⟩
theorem aFW {v:V}{i:Nat}{Q:VK}(hS:Sh K H (lH T) v)(hq:Quad T n)(hi:i<n)(q:∀ b,SqT K H b ((T.getD i []).map V.int)->Q (.ref b) H):bF K v (.int (i:Int)) H Q:=by
 obtain ⟨a,rs,rfl,ha,hl,g⟩:=hS.tab
 obtain ⟨row,e1,e2,e3⟩:=hq.get hi
 obtain ⟨b,hb,hs⟩:=g i row e1
 exact ixT ha hb (q b (by rw [e3];exact hs))
theorem oA {σ:St}{t si sj:Nat}{v:V}{i j:Nat}{Q:VK}(ht:σ[t]?=some (some v))(hi:σ[si]?=some (some (.int (i:Int))))(hj:σ[sj]?=some (some (.int (j:Int))))(hS:Sh K H (lH T) v)(hq:Quad T n)(li:i<n)(lj:j<n)
  (q:Q (.int (at2 T i j)) H):tOp (bF K) (tOp (bF K) (aE t) (aE si)) (aE sj) σ H Q:=by
 refine ⟨_,ht,_,hi,aFW hS hq li fun b hb=>⟨_,hj,ixT hb ?_ q⟩⟩
 obtain ⟨row,e1,e2,e3⟩:=hq.get li
 rw [az,lA (by rw [e3];omega)]
 rfl
end
theorem dH {acc:Addr}{H H2:Hp}{o:HO}(hacc:H acc=none)(sx:SameX acc (upd H acc o) H2):Same H H2:=fun b u e=>sx b u (aR e hacc) (by rw [aX (aR e hacc)];exact e)
theorem Emits.mono {vars vars':List Nat}{tb:TS}{acc:Addr}{σ:St}{H:Hp}{L:List V}(h:Emits vars tb acc σ H L)(hs:∀ k∈vars,k∈vars'):Emits vars' tb acc σ H L:=
 fun D pre ha hz hd=>h D pre ha hz fun σ' H' hl ag sx h2=>hd σ' H' hl (fun k hk=>ag k fun z=>hk (hs k z)) sx h2
theorem Emits.cast {vars:List Nat}{tb:TS}{acc:Addr}{σ:St}{H:Hp}{L L':List V}(h:Emits vars tb acc σ H L)(e:L=L'):Emits vars tb acc σ H L':=e ▸ h
theorem kZ (vars:List Nat)(L:List V){g:TG}{J:It}{tb:TS}{acc:Addr}{σ:St}{H:Hp}{D:mJ}(ha:H acc=none)(hz:L.length<=1000000)(h:Emits vars (jE J g tb) acc σ (upd H acc (.lst [])) L)
  (q:∀ σ' H',Same H H'->H' acc=some (.lst L)->D.nx σ' H'):jE J g tb D σ (upd H acc (.lst [])):=
 h _ [] aF (by simpa using hz) fun σ' H' _ _ sx h2=>q σ' H' (dH ha sx) (by simpa using h2)
theorem dS {α:Type}(f:Nat->List α)(c:Nat):∀ n,(∀ i,i<n->(f i).length<=c)->((ar n).flatMap f).length<=n*c
 | 0,_=>by simp
 | n+1,h=>by
  rw [bI,au,Nat.add_mul,Nat.one_mul]
  have:=dS f c n fun i hi=>h i (by omega)
  have:=h n (by omega)
  omega
theorem vC {α β:Type}(g:α->β)(f:Nat->List α)(l:List Nat):(l.flatMap f).map g=l.flatMap fun i=>(f i).map g:=by
 induction l with
 | nil=>rfl
 | cons x r ih=>rw [i6,cq,ih,i6]
theorem qD {α:Type}(p:α->Bool)(f:Nat->List α)(l:List Nat):(l.flatMap f).all p=l.all fun i=>(f i).all p:=by
 induction l with
 | nil=>rfl
 | cons x r ih=>rw [i6,List.all_append,ih,qo]
section
variable {vars:List Nat}{tb:TS}{acc a:Addr}{σ:St}{H:Hp}{j:Nat}{D:mJ}{K:ae}
theorem aBm {lo:Int}{n:Nat}(R:Nat->List V->Hp->Prop)(hj:j∈vars)(hjl:j<σ.length)(h0:R 0 [] (upd H acc (.lst [])))(ha:H acc=none)
  (h:∀ i σ' H' L (D:mJ),i<n->σ'.length=σ.length->Agree vars σ σ'->σ'[j]?=some (some (.int (lo+(i:Int))))->Same H H'->H' acc=some (.lst L)->R i L H' ->
   (∀ σ'' H'' L',σ''.length=σ.length->Agree vars σ σ''->Same H H''->H'' acc=some (.lst L')->R (i+1) L' H''->D.nx σ'' H'')->tb D σ' H')
  (q:∀ σ' H' L,Same H H'->H' acc=some (.lst L)->R n L H'->D.nx σ' H'):jE (Itr lo n) (aL j) tb D σ (upd H acc (.lst [])):=by
 refine cZ (lo:=lo) (n:=n) (g:=aL j) (D:=D) (fun i σ' H'=>i<=n/\σ'.length=σ.length/\Agree vars σ σ'/\Same H H'/\∃ L,H' acc=some (.lst L)/\R i L H') ⟨bh _,rfl,Agree.refl _ _,aJ ha _,[],aF,h0⟩ (fun i σ1 H1 hi ⟨_,hl1,ag1,sx1,L,h1,r1⟩=>?_) fun σ1 H1 ⟨_,_,_,sm,L,h1,r1⟩=>q σ1 H1 L sm h1 r1
 exact h i (σ1.set j (some (.int (lo+(i:Int))))) H1 L _ hi (by rw [d8];exact hl1) (ag1.trans (Agree.set hj _)) (kT (by omega)) sx1 h1 r1 fun σ2 H2 L' hl2 ag2 sm2 h2 r2=>⟨hi,hl2,ag2,sm2,L',h2,r2⟩
theorem tM {xs:List V}(R:Nat->List V->Hp->Prop)(hj:j∈vars)(hjl:j<σ.length)(h0:R 0 [] (upd H acc (.lst [])))(ha:H acc=none)(hs:∀ i L H',Same H H'->R i L H'->SqL K H' a xs)
  (h:∀ i x σ' H' L (D:mJ),xs[i]?=some x->σ'.length=σ.length->Agree vars σ σ'->σ'[j]?=some (some x)->Same H H'->H' acc=some (.lst L)->R i L H' ->
   (∀ σ'' H'' L',σ''.length=σ.length->Agree vars σ σ''->Same H H''->H'' acc=some (.lst L')->R (i+1) L' H''->D.nx σ'' H'')->tb D σ' H')
  (q:∀ σ' H' L,Same H H'->H' acc=some (.lst L)->R xs.length L H'->D.nx σ' H'):jE (Itl K a) (aL j) tb D σ (upd H acc (.lst [])):=by
 refine cN (K:=K) (a:=a) (xs:=xs) (g:=aL j) (D:=D) (fun i σ' H'=>i<=xs.length/\σ'.length=σ.length/\Agree vars σ σ'/\Same H H'/\∃ L,H' acc=some (.lst L)/\R i L H') ⟨bh _,rfl,Agree.refl _ _,aJ ha _,[],aF,h0⟩ (fun i σ1 H1 _ ⟨_,_,_,sm,L,_,r1⟩=>hs i L H1 sm r1) (fun i x σ1 H1 hx ⟨_,hl1,ag1,sx1,L,h1,r1⟩=>?_) fun σ1 H1 ⟨_,_,_,sm,L,h1,r1⟩=>q σ1 H1 L sm h1 r1
 have hi:i<xs.length:=(ai.mp hx).1
 exact h i x (σ1.set j (some x)) H1 L _ hx (by rw [d8];exact hl1) (ag1.trans (Agree.set hj _)) (kT (by omega)) sx1 h1 r1 fun σ2 H2 L' hl2 ag2 sm2 h2 r2=>⟨hi,hl2,ag2,sm2,L',h2,r2⟩
end
structure Mat (H:Hp)(F:Addr)(ls:List Addr)(M:List (List Int)):Prop where
 top:H F=some (.lst (ls.map V.ref))
 len:ls.length=M.length
 row:∀ (i:Nat) (l:Addr) (r:List Int),ls[i]?=some l->M[i]?=some r->H l=some (.lst (r.map V.int))
 nd:ls.Nodup
 out:F∉ls
theorem Mat.same {H H':Hp}{F:Addr}{ls:List Addr}{M:List (List Int)}(m:Mat H F ls M)(e:Same H H'):Mat H' F ls M:=⟨e _ _ m.top,m.len,fun i l r a b=>e _ _ (m.row i l r a b),m.nd,m.out⟩
theorem Mat.keep {H H':Hp}{F:Addr}{ls:List Addr}{M:List (List Int)}(m:Mat H F ls M)(e:∀ b o,(b=F\/b∈ls)->H b=some o->H' b=some o):Mat H' F ls M:=
 ⟨e _ _ (.inl rfl) m.top,m.len,fun i l r a b=>e _ _ (.inr (aw a)) (m.row i l r a b),m.nd,m.out⟩
def uW (M:List (List Int)) (i j:Nat) (v:Int):List (List Int):=M.set i ((M.getD i []).set j v)
theorem jT {M:List (List Int)}{n i j:Nat}{v:Int}(q:Quad M n)(hi:i<n):Quad (uW M i j v) n:=by
 refine ⟨by unfold uW;rw [d8];exact q.len,fun r hr=>?_⟩
 unfold uW at hr
 rcases List.mem_or_eq_of_mem_set hr with h | h
 ·exact q.row r h
 ·obtain ⟨row,e1,e2,e3⟩:=q.get hi
  rw [h,d8,e3];exact e2
theorem mX {M:List (List Int)}{n i j:Nat}{v:Int}(q:Quad M n)(hi:i<n)(hj:j<n)(a b:Nat):at2 (uW M i j v) a b=if a=i/\b=j then v else at2 M a b:=by
 obtain ⟨row,e1,e2,e3⟩:=q.get hi
 unfold at2 uW
 by_cases ha:a=i
 ·subst ha
  have:(M.set a ((M.getD a []).set j v)).getD a []=(M.getD a []).set j v:=by
   rw [aj,gm (by rw [q.len];exact hi)];rfl
  rw [this,e3]
  by_cases hb:b=j
  ·subst hb
   rw [if_pos ⟨rfl,rfl⟩,aj,gm (by omega)];rfl
  ·rw [if_neg (fun z=>hb z.2),aj,gp (jk hb),<- aj]
 ·have:(M.set i ((M.getD i []).set j v)).getD a []=M.getD a []:=by
   rw [aj,gp (jk ha),<- aj]
  rw [this,if_neg (fun z=>ha z.1)]
theorem Mat.at {K:ae}{H:Hp}{F:Addr}{ls:List Addr}{M:List (List Int)}{n i:Nat}(m:Mat H F ls M)(q:Quad M n)(hi:i<n):∃ l,ls[i]?=some l/\(ls.map V.ref)[i]?=some (.ref l)/\H l=some (.lst ((M.getD i []).map V.int)):=by
 obtain ⟨row,e1,e2,e3⟩:=q.get hi
 have hl:i<ls.length:=by rw [m.len,q.len];exact hi
 refine ⟨ls[i],ah hl,by rw [az,ah hl];rfl,?_⟩
 rw [e3]
 exact m.row i _ row (ah hl) e1
theorem Mat.put {H:Hp}{F:Addr}{ls:List Addr}{M:List (List Int)}{n i j:Nat}{v:Int}{l:Addr}(m:Mat H F ls M)(q:Quad M n)(hi:i<n)(hl:ls[i]?=some l):Mat (upd H l (.lst (((M.getD i []).set j v).map V.int))) F ls (uW M i j v):=by
 have hm:l∈ls:=aw hl
 have hF:F≠l:=fun e=>m.out (e ▸ hm)
 refine ⟨by rw [aX hF];exact m.top,by unfold uW;rw [d8];exact m.len,fun a b r h1 h2=>?_,m.nd,m.out⟩
 by_cases ha:a=i
 ·subst ha
  rw [hl] at h1
  cases h1
  rw [aF]
  unfold uW at h2
  rw [gm (by rw [q.len];exact hi)] at h2
  cases h2
  rfl
 ·have hne:b≠l:=by
   intro e
   subst e
   obtain ⟨i1,z1⟩:=ai.mp h1
   obtain ⟨i2,z2⟩:=ai.mp hl
   exact ha ((List.getElem_inj m.nd).mp (z1.trans z2.symm))
  rw [aX hne]
  unfold uW at h2
  rw [gp (jk ha)] at h2
  exact m.row a b r h1 h2
theorem zV {K:ae}{H:Hp}{F:Addr}{ls:List Addr}{M:List (List Int)}{n i j t si sj:Nat}{σ:St}{Q:VK}(m:Mat H F ls M)(q:Quad M n)(ht:σ[t]?=some (some (.ref F)))(hi:σ[si]?=some (some (.int (i:Int))))(hj:σ[sj]?=some (some (.int (j:Int))))(li:i<n)(lj:j<n)
  (h:Q (.int (at2 M i j)) H):tOp (bF K) (tOp (bF K) (aE t) (aE si)) (aE sj) σ H Q:=by
 obtain ⟨l,h1,h2,h3⟩:=m.at (K:=K) q li
 refine ⟨_,ht,_,hi,ixL (.of m.top) h2 ⟨_,hj,ixL (.of h3) ?_ h⟩⟩
 obtain ⟨row,e1,e2,e3⟩:=q.get li
 rw [az,lA (by rw [e3];omega)]
 rfl
theorem yO {K:ae}{H:Hp}{F:Addr}{ls:List Addr}{M:List (List Int)}{n i j t si sj:Nat}{σ:St}{v:Int}{N:St->Hp->Prop}(m:Mat H F ls M)(q:Quad M n)(ht:σ[t]?=some (some (.ref F)))(hi:σ[si]?=some (some (.int (i:Int))))(hj:σ[sj]?=some (some (.int (j:Int))))(li:i<n)(lj:j<n)
  (h:∀ l H',l∈ls->H'=upd H l (.lst (((M.getD i []).set j v).map V.int))->Mat H' F ls (uW M i j v)->N σ H'):oZ (tOp (bF K) (aE t) (aE si)) (aE sj) fV (.int v) σ H N:=by
 obtain ⟨l,h1,h2,h3⟩:=m.at (K:=K) q li
 obtain ⟨row,e1,e2,e3⟩:=q.get li
 refine ⟨_,ht,_,hi,ixL (.of m.top) h2 ⟨_,hj,l,_,(j:Int),j,rfl,rfl,h3,?_,?_⟩⟩
 rotate_left
 ·rw [<- List.map_set]
  exact h l _ (aw h1) rfl (m.put q li h1)
 rw [af,e3,e2]
 unfold ixN
 rw [if_pos (by omega),if_pos (by omega),dy]
theorem wC {K:ae}{σ:St}{H:Hp}{t n:Nat}{F:Addr}{ls:List Addr}{M:List (List Int)}{Q:VK}(ht:σ[t]?=some (some (.ref F)))(m:Mat H F ls M)(q:Quad M n)(hn:n<=100)(h:∀ p H',Same H H'->Sh K H' (lH M) (.ref p)->Q (.ref p) H') :
  tCB (kQ K) (aB (fU [none] (lD K (aE t)) (aL 0) [] fun acc=>eX (tCB (kQ K) (aB (aE 0) aQ)) acc) aQ) σ H Q:=by
 refine ⟨_,ht,F,rfl, .inl ⟨⟨_, .of m.top⟩,fun acc hacc=>?_⟩⟩
 have hlen:(ls.map V.ref).length=n:=by rw [af,m.len,q.len]
 refine tM (vars:=[0]) (K:=K) (a:=F) (xs:=ls.map V.ref) (fun i L H'=>L.length=i/\∀ (j:Nat) (row:List Int),j<i->M[j]?=some row->∃ b,L[j]?=some (.ref b)/\H' b=some (.tup (row.map V.int))) (by decide) (by show 0<1;decide) ⟨rfl,fun j row hj=>absurd hj (mh _)⟩ hacc (fun i L H' sm _ => .of (sm _ _ m.top)) (fun i x σ1 H1 L D hx l1 ag1 s1 sm1 ha1 ⟨r1,r2⟩ hD=>?_) fun σ1 H1 L sm1 ha1 ⟨r1,r2⟩=>?_
 ·have hi:i<n:=by rw [<- hlen];exact (ai.mp hx).1
  have hil:i<ls.length:=by rw [m.len,q.len];exact hi
  obtain ⟨row,e1,e2,e3⟩:=q.get hi
  have ex:x = .ref ls[i]:=by
   rw [az,ah hil] at hx
   simpa using hx.symm
  subst ex
  have hrow:=m.row i _ row (ah hil) e1
  refine ⟨_,s1,ls[i],row.map V.int,rfl, .inl ⟨.of (sm1 _ _ hrow),fun p hp=>?_⟩⟩
  have hpa:p≠acc:=fun e=>by rw [e,ha1] at hp;cases hp
  refine ⟨L,by rw [aX (jk hpa)];exact ha1,bc (show L.length<=100 by omega) (by decide),?_⟩
  refine hD σ1 _ (L++[.ref p]) l1 ag1 (fun b o e=>?_) aF ⟨by rw [au,r1];rfl,fun j row' hj e=>?_⟩
  ·have hb:b≠acc:=aR e hacc
   rw [aX hb,aX (aR (sm1 _ _ e) hp)]
   exact sm1 _ _ e
  ·by_cases hji:j<i
   ·obtain ⟨b,g1,g2⟩:=r2 j row' hji e
    refine ⟨b,by rw [dk (by omega)];exact g1,?_⟩
    have hb:b≠acc:=ne_of g2 ha1 (fun z=>nomatch z)
    rw [aX hb,aX (aR g2 hp)]
    exact g2
   ·have:j=i:=by omega
    subst this
    rw [e1] at e
    cases e
    refine ⟨p,by rw [dw (by omega),r1];simp,?_⟩
    rw [aX hpa]
    exact aF
 ·refine ⟨acc,L,rfl, .inl ⟨.of ha1,fun p hp=>?_⟩⟩
  have sm2:Same H (upd H1 p (.tup L)):=sm1.trans (aJ hp _)
  refine h p _ sm2 ⟨p,L,rfl, .of aF,ShL.of_rows (by rw [r1,hlen,q.len]) fun i row e=>?_⟩
  have hi:i<n:=by rw [<- q.len];exact (ai.mp e).1
  obtain ⟨b,g1,g2⟩:=r2 i row (by omega) e
  exact ⟨b,g1, .of (by rw [aX (aR g2 hp)];exact g2)⟩
section
variable {K:ae}{H:Hp}
theorem ShL.take:∀ {ds:List Dt} {xs:List V} (n:Nat),ShL K H ds xs->ShL K H (ds.take n) (xs.take n)
 | _,_,0,_=>by rw [zu,zu];rfl
 | [],xs,n+1,h=>by rw [show xs=[] from h];rfl
 | d :: ds,_,n+1,⟨x,r,h1,h2,h3⟩=>⟨x,r.take n,by rw [h1];rfl,h2,ShL.take n h3⟩
end
theorem aHw {xs:List V}{t:Nat}(h:t<=xs.length):sD xs none (some (t:Int))=xs.take t:=by
 unfold sD HT.sIx
 simp only [dy]
 rw [if_neg (by omega),List.drop_zero,ka h,Nat.sub_zero]
theorem aDa {xs:List V}{t:Nat}(h:t<=xs.length):sD xs (some (t:Int)) none=xs.drop t:=by
 unfold sD HT.sIx
 simp only [dy]
 rw [if_neg (by omega),ka h,jl (by rw [il];omega)]
theorem aDU (ns:List Int)(lo hi:Option Int):∃ ms:List Int,sD (ns.map V.int) lo hi=ms.map V.int/\ms.length<=ns.length:=by
 refine ⟨(ns.drop (HT.sIx ns.length 0 lo)).take (HT.sIx ns.length ns.length hi - HT.sIx ns.length 0 lo),?_,?_⟩
 ·unfold sD
  rw [af,xh,uf]
 ·rw [e8,il];omega
end L2
namespace L2
open PySem PySem.Spec PyProof.Rows
section
variable {X:Cx}
theorem nL {prog:Program}{w:World}{A:Around}{E:Value->Shared->Prop}{s:Shared}{t sl:Addr}{items:Array Value}{vl vu:Value}{lo hi:Option Int}{Q:Value->Shared->Prop}(ht:IsTup s.heap t items)(hs:s.heap.IsSliceOf sl vl vu .none)(pl:IsPart vl lo)(pu:IsPart vu hi)
  (hw:HT.sIx items.size 0 lo=0/\HT.sIx items.size items.size hi=items.size) (h:Q (.ref t) s):wpAny (model prog w) A (xf (.ref t) (.ref sl)) Q E s:=by
 obtain ⟨os,hos,hcs,hds⟩:=id hs
 have hTs:s.TypeIs (.ref sl) "slice":=⟨os,hos,hcs⟩
 unfold xf
 try with_reducible refine fj ?_
 first | refine aa (ak ?_) | skip
 refine aa (wpAny_sequenceKey ht.typeIs (by decide) ?_)
 refine aa (ig (name:=n5 "__getitem__") ht.typeIs gu
  (fw gu ht.typeIs Ac ?_ (args_tuple_getitem _ _)))
 show wpAny _ _ (o8 (.ref t) >>= _) _ _ s
 refine aa (tupleItemsOf_ ht ?_)
 refine aa (sg hTs ?_)
 rw [if_pos (by decide)]
 refine aa (HT.sliceApplied_gen hs pl pu ?_)
 rw [hw.1,hw.2]
 have hyes:((((0:Nat):Int) == 0 && (1:Int) == 1 && (items.size - 0) == items.size)=true):=by simp
 show wpAny _ _ (if (((0:Nat):Int) == 0 && (1:Int) == 1 && (items.size - 0) == items.size)=true then _ else _) _ _ s
 rw [if_pos hyes]
 unfold Builtin.Tuple.tupleIsExact
 refine aa (aa (sg ht.typeIs (ak ?_)))
 rw [if_pos (show (Value.type "tuple" == Value.type "tuple")=true by rfl)]
 exact aa (uj (ak ⟨_,rfl,ak h⟩))
def aJf (K:ae):V->Option Int->Option Int->Hp->VK->Prop:=fun x lo hi H Q=>∃ a xs,x = .ref a/\SqT K H a xs/\∀ p H',Same H H'->SqT K H' p (sD xs lo hi)->Q (.ref p) H'
theorem aFc:SlR X (aJf X.K):=by
 intro pins s σ H x v vl vu lo hi sl Q I rx hs pl pu h
 obtain ⟨a,xs,rfl,hx,q⟩:=h
 by_cases hw:HT.sIx xs.length 0 lo=0/\HT.sIx xs.length xs.length hi=xs.length
 ·obtain rfl:v=Value.ref a:=rx
  obtain ⟨its,rv,p,hz⟩:=I.tuple hx
  have hl:=rv.length
  have ec:sD xs lo hi=xs:=by unfold sD;rw [hw.1,hw.2,List.drop_zero,Nat.sub_zero,fz]
  refine ⟨"tuple",_,gu.lookup,p.typeIs,?_⟩
  refine nL p hs pl pu (by simp only [aq,<- hl];exact hw) ?_
  exact ⟨.ref a,H,I,rfl,q a H (Same.refl H) (by rw [ec];exact hx)⟩
 ·exact aHa (X:=X) pins s σ H (.ref a) v vl vu lo hi sl Q I rx hs pl pu ⟨a,xs,rfl,hx,hw,fun p hp=>q p _ (aJ hp _) (.of aF)⟩
abbrev uX (K:ae):V->Option Int->Option Int->Hp->VK->Prop:=fun x lo hi H Q=>aJo K x lo hi H Q\/aJf K x lo hi H Q
theorem sG {K:ae}(hK:X.K=K):SlR X (uX K):=by subst hK;exact aFk.or aFc
end
section
variable {prog:Program}{w:World}{A:Around}{E:Value->Shared->Prop}{s:Shared}
theorem sN {l:Addr}{ob:Obj}{n:Nat}{T:String}{us:List Value}{Q:List Value->Shared->Prop}(e0:s.heap.get? l=some ob)(ec:ob.cls = .type T)(eT:T="list"\/T="tuple")(ed:ob.data = .seq us.toArray n)
  (q:Q us { s with heap:=(s.heap.push (kd "list" #[] 0)).update s.heap.objs.size (ji (· ++ us.toArray)) }) (z:us.length<=ba):wpAny (model prog w) A (collect (.ref l)) Q E s:=by
 unfold collect
 refine aa (zv (i5 entry_proto_collect' ?g1))
 case g1=>
  show wpAny _ _ (do again (.builtin "list.__iadd__" ⟨[<- newList [],Value.ref l],[]⟩)) _ _ s
  refine aa (ug (ak ⟨vo _ (by decide +kernel),i5 entry_list_iadd' ?g2⟩))
  case g2=>
   have e1:(s.heap.push (kd "list" #[] 0)).get? l=some ob:=ao _ e0
   show wpAny _ _ (oh (Value.ref s.heap.objs.size) (Value.ref l) (Value.ref s.heap.objs.size)) _ _ { s with heap:=s.heap.push (kd "list" #[] 0) }
   unfold oh
   refine aa (sg (T:=T) ⟨ob,e1,ec⟩ ?g3)
   case g3=>
    have ht:((Value.type T == Value.type "list") || (Value.type T == Value.type "tuple"))=true:=by rcases eT with rfl | rfl <;> rfl
    rw [if_pos (by first | exact ht | (rcases eT with rfl | rfl <;> simp))]
    refine aa (AW e1 ed (aa (AW (xs:=#[]) (n:=0) (bp _ rfl) rfl ?g4)))
    case g4=>
     rw [if_neg (by simp)]
     refine aa (AA (xs:=#[]) (n:=0) (bp _ rfl) rfl ?g5 (bh _) (by show (#[]++us.toArray).size<=ba+1;simp only [Array.size_append,aq,n9];omega))
     case g5=>
      refine ak ?g6
      case g6=>
       show wpAny (model prog w) A (load s.heap.objs.size >>= fun o=>match o.data with | .seq xs _=>pure xs.toList | _=>unsupported "internal:collect") Q E { s with heap:=(s.heap.push (kd "list" #[] 0)).update s.heap.objs.size (ji (· ++ us.toArray)) }
       refine aa (wpAny_load (get?_update_seq (bp _ rfl) _) ?g7)
       case g7=>
        show wpAny _ _ (pure ((#[]:Array Value)++us.toArray).toList) Q E _
        rw [show ((#[]:Array Value)++us.toArray).toList=us by simp]
        exact ak q
theorem aBV {l:Addr}{ob:Obj}{n:Nat}{T:String}{us:List Value}{ks:List Int}{Q:Value->Shared->Prop}(e0:s.heap.get? l=some ob)(ec:ob.cls = .type T)(eT:T="list"\/T="tuple")(ed:ob.data = .seq us.toArray n)(hI:IntsAre us ks)(h64:us.length<64)
  (q:∀ (out:Array Value) (ns':List Int),IntsAre out.toList ns'->ns'.Perm ks->ns'.Pairwise (·<=·)->Q (.ref (s.heap.objs.size+1)) { s with heap:=sortedAll s.heap us out }):wpAny (model prog w) A (call (.builtin "sorted") [.ref l]) Q E s:=by
 refine ph Be AX AY (AZ _) ?g1
 case g1=>
  unfold xu
  refine aa (m:=checkCount "sorted" 1 1 _) (ak (aa (sN e0 ec eT ed ?g2 (et (mi h64) (by decide)))))
  case g2=>
   refine aa (ug ?g3)
   case g3=>
    have z1:((s.heap.push (kd "list" #[] 0)).update s.heap.objs.size (ji (· ++ us.toArray))).objs.size=s.heap.objs.size+1:=by rw [Heap.size_update,size_push']
    have e2:(((s.heap.push (kd "list" #[] 0)).update s.heap.objs.size (ji (· ++ us.toArray))).push (kd "list" us.toArray 0)).get? (s.heap.objs.size+1)=some (kd "list" us.toArray 0):=by rw [<- z1];exact bp _ rfl
    show wpAny _ _ _ _ _ { s with heap:=((s.heap.push (kd "list" #[] 0)).update s.heap.objs.size (ji (· ++ us.toArray))).push (kd "list" us.toArray 0) }
    rw [z1]
    refine aa (fj (fw zx ⟨_,e2,rfl⟩ ym (list_sort_tree e2 hI h64 fun out ns' a1 a2 a3=>⟨_,rfl,ak ⟨_,rfl,q out ns' a1 a2 a3⟩⟩) (zy _)))
end
theorem oC:∀ {ns:List Int} {us:List Value},IntsAre us ns->Vals (ns.map V.int) us
 | [],_,h=>by cases h;exact .nil
 | n :: ns,_,h=>by
  cases h with
  | cons _ t h=>exact .cons ⟨t,rfl⟩ (oC h)
theorem IntsAre.len:∀ {ns:List Int} {us:List Value},IntsAre us ns->us.length=ns.length
 | [],_,h=>by cases h;rfl
 | n :: ns,_,h=>by
  cases h with
  | cons _ t h=>rw [cw,cw,IntsAre.len h]
def xK (K:ae):List V->Hp->VK->Prop:=fun vs H Q=>∃ (a:Addr) (ns:List Int),vs=[.ref a]/\Sq K H a (ns.map V.int)/\ns.length<64 /\
 ∀ ms:List Int,ms.Perm ns->ms.Pairwise (·<=·)->∀ l,H l=none->Q (.ref l) (upd H l (.lst (ms.map V.int)))
theorem yL {X:Cx}:CallR X (.builtin "sorted") (xK X.K):=by
 intro pins s σ H xs us Q I r ⟨a,ns,e,hq,h64,q⟩
 subst e
 obtain ⟨u,rfl,ru⟩:=rN r
 obtain rfl:u=Value.ref a:=ru
 have go:∀ (its:List Value) (ob:Obj) (n:Nat) (T:String),Vals (ns.map V.int) its->s.heap.get? a=some ob->ob.cls = .type T->(T="list"\/T="tuple")->ob.data = .seq its.toArray n->wpAny (model X.prog X.w) X.A (call (.builtin "sorted") [.ref a]) (EP X pins σ Q) X.xe s:=by
  intro its ob n T rv e0 ec eT ed
  have hi:=gA rv
  refine aBV e0 ec eT ed hi (by rw [IntsAre.len hi];exact h64) fun out ns' a1 a2 a3=>?_
  obtain ⟨c,he⟩:=sortedAll_at s.heap its out
  refine ⟨.ref (s.heap.objs.size+1),_,I.laid (t':=s.toks) (o := .lst (ns'.map V.int)) (fun b ob q=>sortedAll_old q) (xg _) ?_,rfl,q ns' a2 a3 _ (I.hok.fresh (xg _))⟩
  refine ⟨?_,out.toList,c,oC a1,he⟩
  rw [af,a2.length_eq]
  exact et (mi h64) (by decide)
 rcases hq with hq | hq
 ·obtain ⟨its,rv,pl,hz⟩:=I.list hq
  obtain ⟨o,ho,hc,n,hd⟩:=pl.isList
  exact go its o n "list" rv ho hc (.inl rfl) hd
 ·obtain ⟨its,rv,pl,hz⟩:=I.tuple hq
  obtain ⟨o,ho,hc,n,hd⟩:=pl
  exact go its o n "tuple" rv ho hc (.inr rfl) hd
theorem vH {X:Cx}{K:ae}(hK:X.K=K):CallR X (.builtin "sorted") (xK K):=by subst hK;exact yL
mutual
def toP:Dt->PyData
 | .non => .none
 | .bl b => .bool b
 | .int i => .int i
 | .str x => .str x
 | .tup ds => .tuple (aAL ds)
 | .lst ds => .list (aAL ds)
def aAL:List Dt->List PyData
 | []=>[]
 | d :: ds=>toP d :: aAL ds
end
mutual
theorem aEV:∀ d,(toP d).depth=dep d
 | .non=>rfl
 | .bl b=>rfl
 | .int i=>rfl
 | .str x=>rfl
 | .tup ds=>by show (PyData.tuple (aAL ds)).depth=_;unfold PyData.depth dep;rw [uG]
 | .lst ds=>by show (PyData.list (aAL ds)).depth=_;unfold PyData.depth dep;rw [uG]
theorem uG:∀ ds,yn (aAL ds)=wZ ds
 | []=>by unfold aAL wZ yn;rfl
 | d :: ds=>by unfold aAL wZ yn;rw [aEV,uG]
end
mutual
theorem aAq:∀ d,(toP d).hasDict=false
 | .non=>by unfold toP pj;rfl
 | .bl b=>by unfold toP pj;rfl
 | .int i=>by unfold toP pj;rfl
 | .str x=>by unfold toP pj;rfl
 | .tup ds=>by unfold toP pj;exact lE ds
 | .lst ds=>by unfold toP pj;exact lE ds
theorem lE:∀ ds,wt (aAL ds)=false
 | []=>by unfold aAL wt;rfl
 | d :: ds=>by unfold aAL wt;rw [aAq,lE];rfl
end
section
variable {X:Cx}{pins:List (Addr × Obj)}{σ:St}{H:Hp}{s:Shared}
mutual
theorem Inv.reads (I:Inv X pins σ H s):∀ {d:Dt} {x:V} {v:Value},RelV x v->Sh X.K H d x->∃ as,Reads s.heap v (toP d) as
 | .non,x,v,r,h=>by obtain rfl:x = .non:=h;obtain rfl:v = .none:=r;exact ⟨_, .none⟩
 | .bl b,x,v,r,h=>by obtain rfl:x = .bl b:=h;obtain rfl:v = .bool b:=r;exact ⟨_, .bool b⟩
 | .int i,x,v,r,h=>by obtain rfl:x = .int i:=h;obtain ⟨t,rfl⟩:=r;exact ⟨_, .int i t⟩
 | .str y,x,v,r,h=>by obtain rfl:x = .str y:=h;obtain ⟨t,rfl⟩:=r;exact ⟨_, .str y t⟩
 | .tup ds,x,v,r,⟨a,xs,h1,h2,h3⟩=>by
  subst h1
  obtain rfl:v=Value.ref a:=r
  obtain ⟨its,rv,⟨o,ho,hc,n,hd⟩,_⟩:=I.tuple h2
  obtain ⟨as,ha⟩:=Inv.readsAll I rv h3
  exact ⟨_, .tuple ho hc hd ha⟩
 | .lst ds,x,v,r,⟨a,xs,h1,h2,h3⟩=>by
  subst h1
  obtain rfl:v=Value.ref a:=r
  obtain ⟨its,rv,pl,_⟩:=I.list h2
  obtain ⟨o,ho,hc,n,hd⟩:=pl.isList
  obtain ⟨as,ha⟩:=Inv.readsAll I rv h3
  exact ⟨_, .list ho hc hd ha⟩
theorem Inv.readsAll (I:Inv X pins σ H s):∀ {ds:List Dt} {xs:List V} {us:List Value},Vals xs us->ShL X.K H ds xs->∃ as,ReadsAll s.heap us (aAL ds) as
 | [],xs,us,r,h=>by obtain rfl:xs=[]:=h;cases r;exact ⟨_, .nil⟩
 | d :: ds,xs,us,r,⟨x,t,h1,h2,h3⟩=>by
  subst h1
  cases r with
  | cons r1 r2=>
   obtain ⟨as,h4⟩:=Inv.reads I r1 h2
   obtain ⟨bs,h5⟩:=Inv.readsAll I r2 h3
   exact ⟨_, .cons h4 h5⟩
end
end
def okR (d:Dt):Prop:=(toP d).showable=true/\(toP d).leavesShort 1930=true/\(toP d).bulk<=4000/\dep d<=100
def ItAt (b:Bool) (h:Heap) (it l:Addr) (i:Nat):Prop:=∃ o,h.get? it=some o/\o.cls = .type (if b then "list_iterator" else "tuple_iterator")/\o.data = .fields #[.ref l, .int i 0]
def aDI (b:Bool) (h:Heap) (l:Addr) (us:Array Value):Prop:=∃ o,h.get? l=some o/\o.cls = .type (if b then "list" else "tuple")/\∃ n,o.data = .seq us n
theorem ItAt.keep {b:Bool}{h h':Heap}{it l:Addr}{i:Nat}(x:ItAt b h it l i)(e:∀ o,h.get? it=some o->h'.get? it=some o):ItAt b h' it l i:=let ⟨o,ho,r⟩:=x;⟨o,e _ ho,r⟩
theorem ItAt.lt {b:Bool}{h:Heap}{it l:Addr}{i:Nat}(x:ItAt b h it l i):it<h.objs.size:=let ⟨_,ho,_⟩:=x;br ho
section
variable {prog:Program}{w:World}{A:Around}{E:Value->Shared->Prop}{s:Shared}
theorem qO {it t:Addr}{i:Nat}{us:Array Value}{x:Value}{Q:Value->Shared->Prop}(hit:s.heap.IsTupleIter it t i)(ht:s.heap.IsTuple t us)(hx:us[i]?=some x)
  (q:∀ h',h'.IsTupleIter it t (i+1)->iu it s.heap h'->Q x { s with heap:=h' }):wpAny (model prog w) A (jd (.ref it)) Q E s:=by
 obtain ⟨ob,e1,e2,e3⟩:=id hit
 obtain ⟨ol,f1,_,nl,f2⟩:=ht
 unfold jd;refine aa (ig (name:=n5 "__next__") hit.typeIs ke (fw ke hit.typeIs uw ?g (uh _)))
 case g=>
  show wpAny _ _ (field (.ref it) 0 >>= _) _ _ s;refine aa (jt e1 e3 (x := .ref t) rfl ?g)
  case g=>
   show wpAny _ _ (if (Value.ref t == Value.none)=true then _ else _) _ _ s;rw [if_neg (show ¬ ((Value.ref t == Value.none)=true) from bu)]
   show wpAny _ _ (field (.ref it) 1 >>= _) _ _ s;refine aa (jt e1 e3 (x := .int i 0) rfl ?g)
   case g=>
    show wpAny _ _ (AB (.ref t) >>= _) _ _ s;refine aa (jz f1 f2 ?g)
    case g=>
     simp only [dy,hx];refine aa (sa e1 e3 (by simp) (ak ⟨x,rfl,ak (q _ ?g (jn ..))⟩))
     case g=>exact ⟨_,i4 _ e1 (om (nv e3 _)),(wu ..).trans e2,by rw [nv e3];simp [lr]⟩
theorem rX {it t:Addr}{i:Nat}{us:Array Value}{Q:Value->Shared->Prop}(hh:A.handled=none)(hit:s.heap.IsTupleIter it t i)(ht:s.heap.IsTuple t us)(hx:us[i]?=none)
  (q:∀ h' e,Ag it s.heap h'->(∃ o,h'.get? e=some o/\o.cls = .type "StopIteration")->E (.ref e) { s with heap:=h' }):wpAny (model prog w) A (jd (.ref it)) Q E s:=by
 obtain ⟨ob,e1,e2,e3⟩:=id hit
 obtain ⟨ol,f1,_,nl,f2⟩:=ht
 unfold jd;refine aa (ig (name:=n5 "__next__") hit.typeIs ke (fw ke hit.typeIs uw ?g (uh _)))
 case g=>
  show wpAny _ _ (field (.ref it) 0 >>= _) _ _ s;refine aa (jt e1 e3 (x := .ref t) rfl ?g)
  case g=>
   show wpAny _ _ (if (Value.ref t == Value.none)=true then _ else _) _ _ s;rw [if_neg (show ¬ ((Value.ref t == Value.none)=true) from bu)]
   show wpAny _ _ (field (.ref it) 1 >>= _) _ _ s;refine aa (jt e1 e3 (x := .int i 0) rfl ?g)
   case g=>
    show wpAny _ _ (AB (.ref t) >>= _) _ _ s;refine aa (jz f1 f2 ?g)
    case g=>
     simp only [dy,hx];refine aa (uj (aa (sa e1 e3 (by simp) ?g)))
     case g=>
      show wpAny _ _ (newExc (.type "StopIteration") [] >>= _) _ _ _;refine aa ?g
      case g=>
       simp only [newExc,newTuple];refine aa (gf ?g (by size_fits))
       case g=>
        refine aa (m:=v9 _ _) (uv (a:=Value.none) (by first | rfl | (simp only [v9];rfl)) ?g)
        case g=>
         refine gf ?g (by size_fits)
         case g=>
          simp only [raiseNew];refine aa (wpAny_handled ?g)
          case g=>
           first | rw [show A.in1.handled=none from hh] | rw [hh]
           exact aa (ak (wpAny_throw (q _ _ (((jn ..).extBut.push _).push _) ⟨_,bp _ rfl,rfl⟩)))
theorem aDH {b:Bool}{it l:Addr}{i:Nat}{us:Array Value}{x:Value}{Q:Value->Shared->Prop}(hit:ItAt b s.heap it l i)(ho:aDI b s.heap l us)(hx:us[i]?=some x)
  (q:∀ h',ItAt b h' it l (i+1)->iu it s.heap h'->Q x { s with heap:=h' }):wpAny (model prog w) A (jd (.ref it)) Q E s:=by
 cases b with
 | true=>exact wpAny_nextOf_list_item (l:=l) (i:=i) (items:=us) hit ho hx q
 | false=>exact qO (t:=l) (i:=i) (us:=us) hit ho hx q
theorem aEO {b:Bool}{it l:Addr}{i:Nat}{us:Array Value}{Q:Value->Shared->Prop}(hh:A.handled=none)(hit:ItAt b s.heap it l i)(ho:aDI b s.heap l us)(hx:us[i]?=none)
  (q:∀ h' e,Ag it s.heap h'->(∃ o,h'.get? e=some o/\o.cls = .type "StopIteration")->E (.ref e) { s with heap:=h' }):wpAny (model prog w) A (jd (.ref it)) Q E s:=by
 cases b with
 | true=>exact wpAny_nextOf_list_end (l:=l) (i:=i) (items:=us) hh hit ho hx q
 | false=>exact rX (t:=l) (i:=i) (us:=us) hh hit ho hx q
abbrev itO (b:Bool) (l:Addr):Obj:={ cls := .type (if b then "list_iterator" else "tuple_iterator"),data := .fields #[.ref l, .int 0 0] }
theorem zK {b:Bool}{l:Addr}{us:Array Value}{Q:Value->Shared->Prop}(ho:aDI b s.heap l us)(q:Q (.ref s.heap.objs.size) { s with heap:=s.heap.push (itO b l) }):wpAny (model prog w) A (AR (.ref l)) Q E s:=by
 cases b with
 | true=>exact rh (show s.heap.IsList l us from ho) q
 | false=>exact vn (show s.heap.IsTuple l us from ho) q
end
section
variable {X:Cx}{pins:List (Addr × Obj)}{σ:St}{H:Hp}{s:Shared}{h':Heap}
theorem Inv.turnedL {t':Nat}{ch:List Addr}(I:Inv X pins σ H s)(hf:∀ b∈ch,FpOk X pins H b)(k:∀ b o,b∉ch->s.heap.get? b=some o->h'.get? b=some o):Inv X pins σ H { s with heap:=h',toks:=t' }:=by
 have nit:∀ b u,H b=some u->b∉ch:=fun b u e z=>by rw [(hf b z).1] at e;cases e
 refine I.step (g':=s.gens) (d':=s.drawn) (ch:=ch) (fun b hb=>?_) (fun b o _ _ hc e _=>k b o hc e) (fun b o _ _ hc e _=>⟨o.slots,k b o hc e⟩) (fun _ _ _ _ n=>n) (fun b o hc e=>⟨o,k b o hc e⟩) (fun _ _ e=>e) (fun _ _ _ e=>e) (fun b ps e=>⟨#[],by rw [e];simp⟩) (fun m hm=>?_) (fun b u e=>?_) I.bare
 ·obtain ⟨_,f1,_,f3,f4,f5⟩:=hf b hb
  exact ⟨f3,f1,f4,f5⟩
 ·obtain ⟨o,es,ep,ho,r⟩:=hm
  exact ⟨o,es,ep,k _ o (fun z=>(hf _ z).2.1 rfl) ho,r⟩
 ·refine (I.hok b u e).stay (fun c v hc q=>k c v ?_ q) (fun _ q=>q) fun _ _ q=>q
  rcases hc with z | z
  ·rw [z];exact nit b u e
  ·exact nit c _ z
end
def SqB (b:Bool) (K:ae) (H:Hp) (l:Addr) (xs:List V):Prop:=match b with | true=>SqL K H l xs | false=>SqT K H l xs
section
variable {X:Cx}{pins:List (Addr × Obj)}{σ:St}{H:Hp}{s:Shared}
theorem Inv.obAt {b:Bool}{l:Addr}{xs:List V}(I:Inv X pins σ H s)(h:SqB b X.K H l xs):∃ its:List Value,Vals xs its/\aDI b s.heap l its.toArray/\xs.length<=ba:=by
 cases b with
 | true=>
  obtain ⟨its,rv,pl,hz⟩:=I.list h
  obtain ⟨o,ho,hc,n,hd⟩:=pl.isList
  exact ⟨its,rv,⟨o,ho,hc,n,hd⟩,hz⟩
 | false=>
  obtain ⟨its,rv,⟨o,ho,hc,n,hd⟩,hz⟩:=I.tuple h
  exact ⟨its,rv,⟨o,ho,hc,n,hd⟩,hz⟩
theorem Inv.sqB_inj {b:Bool}{l:Addr}{xs ys:List V}(I:Inv X pins σ H s)(h:SqB b X.K H l xs)(h':SqB b X.K H l ys):xs=ys:=by
 cases b with
 | true=>exact I.list_inj h h'
 | false=>exact I.tuple_inj h h'
end
structure aJv (mg:Str->Option Value):Prop extends Blt mg where
 zip:mg "zip" = none
 repr:mg "repr" = none
 enumerate:mg "enumerate" = none
 reversed:mg "reversed" = none
 str:mg "str" = none
section
variable {prog:Program}{w:World}{A:Around}{E:Value->Shared->Prop}{s:Shared}
end
theorem jG {X:Cx}{K:ae}{o e:Expr}{es:List Expr}{to:TE}{t:TA}{name:Str}{apos cpos:Pos}{T id:String}{r:V->List V->Hp->VK->Prop}(hK:X.K=K)(pa:PlainAttrs T)(slot:Slot T name id)(hty:typeOf (.builtin id)=pure (.type "method_descriptor"))(hm:MtM X id r)(ho:PE X o to)(ha:PA X (e :: es) t)
  (b1:attributeBase o name X.env (eval o X.env)=eval o X.env:=by rfl)
  (b2:((vg cpos (fm (e :: es) X.env)).all (fun x=>!x.1) && (backToKw cpos (Bc [] X.env)).all (fun x=>x.1.isSome) && decide ((e :: es).length+([]:List Keyword).length+(if ([]:List Keyword).isEmpty then 0 else 1)<30))=true:=by rfl)
  (b3:(apos.endLine == cpos.line)=true:=by rfl) (b4:fm (e :: es) X.env=(false,eval e X.env) :: fm es X.env:=by rfl) (b5:(vg cpos (fm es X.env)).any (·.1)=false:=by rfl) :
  PE X (.Call (.Attribute o name apos) (e :: es) [] cpos) (tBM K T r to t):=by subst hK;exact aIm pa slot hty hm ho ha b1 b2 b3 b4 b5
def aIj:R2:=fun x y H Q=>(∃ a b,x = .bl a/\y = .bl b/\Q (.bl (a == b)) H)\/(y = .non/\Q (.bl (decide (x = .non))) H)
theorem aHo {X:Cx}:OpR X (i7 .Is) aIj:=by
 refine OpR.or (fun pins s σ H x y v u Q I rx ry h=>?g) aGt
 case g=>
 obtain ⟨a,b,rfl,rfl,q⟩:=h
 obtain rfl:v=Value.bool a:=rx
 obtain rfl:u=Value.bool b:=ry
 exact wpAny_is_plain (by cases a <;> cases b <;> rfl) (aEs I q (by cases a <;> cases b <;> rfl))
end L2
namespace L2
open PySem
def cF (p:Nat):V := .int (p:Int)
theorem yX (ps:List Nat):ps.map cF=(ps.map fun p:Nat=>(p:Int)).map V.int:=by rw [ft];rfl
theorem iI {c:Bool}{A B:Prop}(e:c=true)(h:A):if c=true then A else B:=by rw [if_pos e];exact h
theorem cL {c:Bool}{A B:Prop}(e:c=false)(h:B):if c=true then A else B:=by subst e;exact aJD h
theorem aCw {K:ae}{H:Hp}{a l:Addr}{xs ys:List V}{o:HO}(h:SqT K H a xs)(hl:H l=some (.lst ys)):SqT K (upd H l o) a xs:=by
 have key:∀ u,H a=some u->(∀ zs,u ≠ .lst zs)->upd H l o a=some u:=fun u e n=>by
  rw [aX]
  ·exact e
  ·intro z
   rw [z,hl] at e
   cases e
   exact n _ rfl
 rcases h with (h | ⟨u,h⟩) | h
 ·exact .inl (.inl (key _ h fun _ z=>by cases z))
 ·exact .inl (.inr ⟨u,key _ h fun _ z=>by cases z⟩)
 ·exact .inr h
theorem aAu {fs ls:List Nat}{k:Nat}(hk:k<ls.length):((fs++[ls[k]])++ls.eraseIdx k).Perm (fs++ls):=by
 rw [gg]
 refine yo _ ?_
 have e:ls=ls.take k++ls[k] :: ls.drop (k+1):=by simp
 have e2:ls.eraseIdx k=ls.take k++ls.drop (k+1):=List.eraseIdx_eq_take_drop_succ _ _
 rw [e2]
 refine List.Perm.trans ?_ (List.Perm.of_eq e.symm)
 show (ls[k] :: (ls.take k++ls.drop (k+1))).Perm _
 exact List.perm_middle.symm
theorem wM {α β:Type}(f:α->β):∀ (l:List α) (k:Nat),(l.map f).eraseIdx k=(l.eraseIdx k).map f
 | [],_=>rfl
 | _ :: _,0=>rfl
 | a :: l,k+1=>by
  show f a :: (l.map f).eraseIdx k=f a :: (l.eraseIdx k).map f
  rw [wM f l k]
section
variable {K:ae}{H:Hp}
end
theorem aCO {c:Int}{n:Nat}(h:1<=n):∃ k:Nat,c % (n:Int)=(k:Int)/\k<n:=by
 have g0:=yp c (show (n:Int)≠0 by omega)
 have g1:=Int.emod_lt_of_pos c (show (0:Int)<(n:Int) by omega)
 obtain ⟨k,hk⟩:=Int.eq_ofNat_of_zero_le g0
 exact ⟨k,hk,by omega⟩
theorem aJj {ps:List Nat}{i:Nat}(h:i<ps.length):(ps.map cF)[i]?=some (cF (ps.getD i 0)):=by
 rw [az,aj,ah h]
 rfl
def Rows (K:ae) (H:Hp) (xs:List V) (T:List (List Int)):Prop:=xs.length=T.length/\∀ (i:Nat) (row:List Int),T[i]?=some row->∃ b,xs[i]?=some (.ref b)/\SqT K H b (row.map V.int)
section
variable {K:ae}{H H':Hp}{xs:List V}{T:List (List Int)}
theorem Rows.map (h:Rows K H xs T)(f:∀ b row,SqT K H b row->SqT K H' b row):Rows K H' xs T:=⟨h.1,fun i row e=>by
 obtain ⟨b,e1,e2⟩:=h.2 i row e
 exact ⟨b,e1,f _ _ e2⟩⟩
theorem Rows.same (h:Rows K H xs T)(e:Same H H'):Rows K H' xs T:=h.map fun _ _ s=>e.tup s
theorem Rows.put (h:Rows K H xs T){l:Addr}{ys:List V}{o:HO}(hl:H l=some (.lst ys)):Rows K (upd H l o) xs T:=h.map fun _ _ s=>aCw s hl
theorem Rows.nil:Rows K H [] []:=⟨rfl,fun i row e=>by cases e⟩
theorem Rows.snoc (h:Rows K H xs T){b:Addr}{r:List Int}(hb:SqT K H b (r.map V.int)):Rows K H (xs++[.ref b]) (T++[r]):=by
 refine ⟨by rw [au,au,h.1];rfl,fun i row e=>?_⟩
 by_cases hi:i<T.length
 ·rw [dk hi] at e
  obtain ⟨b',e1,e2⟩:=h.2 i row e
  exact ⟨b',by rw [dk (by rw [h.1];exact hi)];exact e1,e2⟩
 ·rw [dw (by omega)] at e
  have:i - T.length=0:=by
   rcases hk:i - T.length with _ | k
   ·rfl
   ·rw [hk] at e;cases e
  rw [this] at e
  cases e
  exact ⟨b,by rw [dw (by rw [h.1];omega),h.1,this];rfl,hb⟩
theorem Rows.sh (h:Rows K H xs T){l:Addr}(hl:SqL K H l xs):Sh K H (.lst (T.map fun r=>Dt.tup (r.map Dt.int))) (.ref l):=⟨l,xs,rfl,hl,ShL.of_rows h.1 h.2⟩
end
end L2
namespace L2
open PySem PySem.Spec PyProof.Rows
section
variable {prog:Program}{w:World}{A:Around}{E:Value->Shared->Prop}{s:Shared}
theorem aAW {b:Bool}{z it l:Addr}{k:Nat}{us:Array Value}{x u:Value}{Q:Value->Shared->Prop}(hne:z≠it)(hz:Bf s.heap z it k u)(h1:ItAt b s.heap it l k)(o1:aDI b s.heap l us)(hx:us[k]?=some x)
  (q:∀ h',IsEnumOut h' z it ((k:Int)+1) x s.heap.objs.size->ItAt b h' it l (k+1)->h'.get? s.heap.objs.size=some { cls := .type "tuple",data := .seq #[.int k s.toks,x] }->h'.objs.size=s.heap.objs.size+1->(∀ c o,c≠z->c≠it->s.heap.get? c=some o->h'.get? c=some o)->Q (.ref s.heap.objs.size) { s with heap:=h',toks:=s.toks+1 }) :
  wpAny (model prog w) A (Builtin.«enumerate.__next__» ⟨[.ref z],[]⟩) (fun fin s'=>∃ r,fin = .done (.ret r)/\Q r s') E s:=by
 show wpAny _ _ (field (.ref z) 2 >>= _) _ _ _;refine aa (jt hz rfl (x := .ref it) rfl (aa (aDH (b:=b) h1 o1 hx fun H1 t1 s1=>?g)))
 case g=>
 have z1:Bf H1 z it k u:=s1.extBut _ _ hne hz
 show wpAny _ _ (field (.ref z) 3 >>= _) _ _ _;refine aa (jt z1 rfl (x:=lr k) rfl ?g)
 case g=>
 show wpAny _ _ (field (.ref z) 4 >>= _) _ _ _;refine aa (jt z1 rfl (x := .none) rfl ?g)
 case g=>
 show wpAny _ _ (mkInt k >>= _) _ _ _;refine aa (wpAny_mkInt ?g)
 case g=>
 show wpAny _ _ (setField (.ref z) 3 (lr ((k:Int)+1)) >>= _) _ _ _;refine aa (ny z1 (by simp) fun H2 z2 s2=>?g)
 case g=>
 replace z2:Bf H2 z it ((k:Int)+1) u:=z2
 show wpAny _ _ (setField (.ref z) 4 .none >>= _) _ _ _;refine aa (ny z2 (by simp) fun H3 z3 s3=>?g)
 case g=>
 replace z3:Bf H3 z it ((k:Int)+1) u:=z3
 show wpAny _ _ (newTuple [.int k s.toks,x] >>= _) _ _ _;refine aa (wpAny_newTuple ?g)
 case g=>
 have sz:H3.objs.size=s.heap.objs.size:=by rw [s3.1,s2.1,s1.1]
 have z4:Bf (H3.push { cls := .type "tuple",data := .seq #[.int k s.toks,x] }) z it ((k:Int)+1) u:=ao _ z3
 have lz:z<H3.objs.size:=br z3
 show wpAny _ _ (qc (.ref z) >>= _) _ _ _;unfold qc;refine aa (aa (jt z4 rfl (x := .none) rfl (ak ?g)))
 case g=>
 simp only [if_true];refine aa (uj (aa (jt z4 rfl (x:=u) rfl (aa (ny z4 (by simp) fun H5 z5 s5=>?g)))))
 case g=>
 replace z5:Bf H5 z it ((k:Int)+1) x:=z5
 show wpAny _ _ (pk (.ref z) (.ref H3.objs.size) >>= _) _ _ _;unfold pk;refine aa (aa (ny z5 (by simp) fun H6 z6 s6=>?g))
 case g=>
 replace z6:IsEnumOut H6 z it ((k:Int)+1) x H3.objs.size:=z6
 refine ny z6 (by simp) fun H7 z7 s7=>?g
 case g=>
 replace z7:IsEnumOut H7 z it ((k:Int)+1) x H3.objs.size:=z7
 have up:∀ c o,c≠z->H3.get? c=some o->H7.get? c=some o:=fun c o n e=>s7.extBut _ _ n (s6.extBut _ _ n (s5.extBut _ _ n (ao _ e)))
 have p7:H7.get? H3.objs.size=some { cls := .type "tuple",data := .seq #[.int k s.toks,x] }:=s7.extBut _ _ (mj lz) (s6.extBut _ _ (mj lz) (s5.extBut _ _ (mj lz) (bp _ rfl)))
 have n7:H7.objs.size=H3.objs.size+1:=by rw [s7.1,s6.1,s5.1,jc]
 rw [sz] at z7 p7 n7
 refine aa (xi (ak ⟨_,rfl,(?g:Q (.ref H3.objs.size) _)⟩))
 case g=>
 rw [sz]
 refine q H7 z7 (t1.keep fun o e=>up _ o hne.symm (s3.extBut _ _ hne.symm (s2.extBut _ _ hne.symm e))) p7 n7 fun c o n m e=>up c o n (s3.extBut _ _ n (s2.extBut _ _ n (s1.extBut _ _ m e)))
theorem aDt {b:Bool}{z it l:Addr}{k:Nat}{us:Array Value}{u:Value}{Q:Fin->Shared->Prop}(hh:A.handled=none)(hz:Bf s.heap z it k u)(h1:ItAt b s.heap it l k)(o1:aDI b s.heap l us)(hx:us[k]?=none)
  (q:∀ h' e,Ag it s.heap h'->(∃ o,h'.get? e=some o/\o.cls = .type "StopIteration")->E (.ref e) { s with heap:=h' }) :
  wpAny (model prog w) A (Builtin.«enumerate.__next__» ⟨[.ref z],[]⟩) Q E s:=by
 show wpAny _ _ (field (.ref z) 2 >>= _) _ _ _
 exact aa (jt hz rfl (x := .ref it) rfl (aa (aEO (b:=b) hh h1 o1 hx q)))
end
def Ite (K : ae) (b : Bool) (l : Addr) : It :=
  ⟨fun i H => ∃ xs x, SqB b K H l xs /\ xs[i]? = some x,
   fun i H v H' => ∃ p x, v = .ref p /\ H p = none /\ H' = upd H p (.tup [.int (i : Int), x]) /\ ∀ xs, SqB b K H l xs -> xs[i]? = some x,
   fun i H => ∃ xs, SqB b K H l xs /\ xs.length <= i⟩
def eTn (b:Bool) (z it l:Addr) (i:Nat) (h:Heap):Prop:=(∃ u,Bf h z it i u)/\ItAt b h it l i
theorem aCq {P:Program}{w:World}{K:ae}{es:List Expr}{k:Nat}{pos:Pos}{b:Bool}{z it l:Addr}(hne:z≠it) :
  aFu P w K (.Tuple es k pos) (Ite K b l) [z,it] z (eTn b z it l) where
 mem:=by simp
 obj:=fun i h ⟨⟨u,h1⟩,⟨o2,h2,_,d2⟩⟩ c hb=>by
  simp only [bj,ng,or_false] at hb
  rcases hb with rfl | rfl
  ·exact ⟨_,h1,fun v q=>by cases q⟩
  ·exact ⟨_,h2,fun v q=>by rw [d2] at q;cases q⟩
 keep:=fun i h h' ⟨⟨u,h1⟩,h2⟩ kp=>⟨⟨u,kp z (by simp) _ h1⟩,h2.keep fun o e=>kp it (by simp) o e⟩
 item:=by
  intro X hP hw hK hc i pins s σ H E I hf st hg
  subst hP hw hK
  obtain ⟨⟨u0,h1⟩,h2⟩:=st
  obtain ⟨xs,x,q1,hx⟩:=hg
  obtain ⟨us,r1,o1,z1⟩:=I.obAt q1
  obtain ⟨ux,hux,rx⟩:=r1.get hx
  have hT:s.TypeIs (.ref z) "enumerate":=⟨_,h1,rfl⟩
  unfold wg
  refine aa (qq (ig (name:=n5 "__next__") hT oo (fw oo hT ye (aAW hne h1 h2 o1 (by simpa using hux) fun h' g1 g2 g3 g4 kp=>ak ⟨_,rfl,?g⟩) (xj _))))
  case g=>
  refine wpAny_letOwnedTupleGo_enum (s:={ s with heap:=h',toks:=s.toks+1 }) g1 fun h2' g1' sb=>?g
  case g=>
  have lt:∀ c∈[z,it],c<s.heap.objs.size:=fun c hb=>by
   simp only [bj,ng,or_false] at hb
   rcases hb with rfl | rfl
   ·exact br h1
   ·exact h2.lt
  have kb:∀ c o,c∉[z,it]->s.heap.get? c=some o->h'.get? c=some o:=fun c o n e=>kp c o (fun q=>n (by simp [q])) (fun q=>n (by simp [q])) e
  have hn:H s.heap.objs.size=none:=I.hok.fresh (ay _)
  have I1:Inv X pins σ (upd H s.heap.objs.size (.tup [.int (i:Int),x])) { s with heap:=s.heap.push { cls := .type "tuple",data := .seq #[.int i s.toks,ux] },toks:=s.toks+1 }:=
   I.laid (t':=s.toks+1) (fun c o e=>ao _ e) (ay _) (show ObjOk X.prog X.w _ _ _ (.tup [.int (i:Int),x]) from ⟨show 2<=ba by decide,[.int i s.toks,ux], .cons ⟨_,rfl⟩ (.cons rx .nil),TupN.new _ _⟩)
  have hf1:∀ c∈[z,it],FpOk X pins (upd H s.heap.objs.size (.tup [.int (i:Int),x])) c:=fun c hb=>by
   obtain ⟨f0,f⟩:=hf c hb
   exact ⟨by rw [aX (d0 (lt c hb))];exact f0,f⟩
  have I2:Inv X pins σ (upd H s.heap.objs.size (.tup [.int (i:Int),x])) { s with heap:=h',toks:=s.toks+1 }:=I1.turnedL (t':=s.toks+1) hf1 fun c o nb e=>by
   rcases Heap.get?_push_cases e with ⟨eb,eo⟩ | e
   ·subst eb;subst eo
    exact g3
   ·exact kb c o nb e
  have I3:Inv X pins σ (upd H s.heap.objs.size (.tup [.int (i:Int),x])) { s with heap:=h2',toks:=s.toks+1 }:=I2.turnedL (t':=s.toks+1) hf1 fun c o nb e=>sb.extBut _ _ (fun q=>nb (by simp [q])) e
  exact ⟨.ref s.heap.objs.size,_,I3,rfl,⟨_,x,rfl,hn,rfl,fun xs' e=>by rw [I.sqB_inj e q1];exact hx⟩,
   ⟨⟨_,by simpa using g1'⟩,g2.keep fun o e=>sb.extBut _ _ hne.symm e⟩,fun c hb=>(hf1 c hb).1⟩
 done:=by
  intro X hP hw hK hc i pins s σ H E I hf st hg
  subst hP hw hK
  obtain ⟨⟨u0,h1⟩,h2⟩:=st
  obtain ⟨xs,q1,hl⟩:=hg
  obtain ⟨us,r1,o1,z1⟩:=I.obAt q1
  have l1':=r1.length
  have hT:s.TypeIs (.ref z) "enumerate":=⟨_,h1,rfl⟩
  unfold wg
  refine aa (qq (ig (name:=n5 "__next__") hT oo (fw oo hT ye (aDt (I.ok.hd hc) h1 h2 o1 (by simp;omega) fun h' e kp ⟨o,e1,e2⟩=>?g) (xj _))))
  case g=>
  refine aa (nh (T:="StopIteration") (b:=true) ⟨o,e1,e2⟩ isSubtype_stop (ak ⟨rfl,?g⟩))
  case g=>
  exact I.turnedL (t':=s.toks) hf fun c o n e=>kp c o (fun q=>n (by simp [q])) e
 self:=fun _ _ _ _ _ st q=>let ⟨⟨_,h1⟩,_⟩:=st;wpAny_pyIter_enum h1 q
abbrev eH (h:Heap) (b:Bool) (l:Addr):Heap:=(h.push (itO b l)).push { cls := .type "enumerate",data := .fields #[.none, .bool false, .ref h.objs.size,lr 0, .none, .none] }
theorem aDd (b:Bool)(l:Addr)(xs:Array Value)(o:Obj) :
  Meets (Builtin.«enumerate.__new__» ⟨[.type "enumerate", .ref l],[]⟩) (fun _ R s=>s.heap.get? l=some o/\aDI b s.heap l xs/\R (.ok (.ret (.ref (s.heap.push (itO b l)).objs.size))) { s with heap:=eH s.heap b l }):=
 .of_wp fun prog w A R s h=>by
  obtain ⟨s1,s2,s3,s4,s5⟩:=s
  obtain ⟨m0,m1,q⟩:=h
  have hsub:=sub_enumerate
  have n1:aDI b (Shared.heap ⟨s1,s2,s3,s4,s5⟩) l xs:=m1
  wp_walk using js m0
  refine wpAny_stack_any fun st=>ak ?_
  split
  ·rename_i cc _ _ _ _ _
   cases (cc == Value.type "enumerate") <;>
   ·wp_walk using js m0,zK n1
    exact ⟨_,rfl,q⟩
  ·wp_walk using js m0,zK n1
   exact ⟨_,rfl,q⟩
theorem aCm {prog:Program}{w:World}{A:Around}{E:Value->Shared->Prop}{s:Shared}{b:Bool}{l:Addr}{xs:Array Value}{Q:Value->Shared->Prop}(o1:aDI b s.heap l xs)
  (q:∀ h',eTn b (s.heap.objs.size+1) s.heap.objs.size l 0 h'->(∀ c o,s.heap.get? c=some o->h'.get? c=some o)->Q (.ref (s.heap.objs.size+1)) { s with heap:=h' }) :
  wpAny (model prog w) A (call (.type "enumerate") [.ref l]) Q E s:=by
 obtain ⟨o,e0,ec,n,ed⟩:=id o1
 refine callType_new F.called_enumerate (by decide) (F.typeCall_enumerate_1 _) (F.newCall_enumerate_1 _) (fun ob=>F.args_object_init_2 ob _) F.entry_enumerate_new (aDd b l xs o) ⟨e0,o1,?g⟩
 case g=>
 have z1:(s.heap.push (itO b l)).objs.size=s.heap.objs.size+1:=jc ..
 have g2:(eH s.heap b l).get? (s.heap.push (itO b l)).objs.size=some _:=bp _ rfl
 have g1:(eH s.heap b l).get? s.heap.objs.size=some _:=ao _ (bp _ rfl)
 rw [z1] at g2
 show _/\_
 rw [z1]
 exact ⟨⟨_,g2,rfl⟩,q _ ⟨⟨_,g2⟩,⟨_,g1,rfl,rfl⟩⟩ fun c o x=>ao _ (ao _ x)⟩
def aDw (K:ae) (ta:TA):TI:=fun σ H R=>ta σ H fun vs H1=>∃ l b,vs=[.ref l]/\(∃ xs,SqB b K H1 l xs)/\R (Ite K b l) H1
theorem wL:fi "enumerate" = some (.type "enumerate"):=by decide +kernel
theorem aFC {X:Cx}{es:List Expr}{k:Nat}{po:Pos}{a:Expr}{ta:TA}{p pos:Pos}(hg:Gl X "enumerate")(hm:X.mg "enumerate" = none)(ha:PA X [a] ta)(hs:fm [a] X.env=[(false,eval a X.env)]:=by rfl) :
  PI X (.Tuple es k po) (.Call (.Name "enumerate" p) [a] [] pos) (aDw X.K ta):=by
 intro pins s σ H R I h
 refine Call_ (sV I hg hm wL (j8 (thn (ha pos pins s σ H _ I h) fun us s1 ⟨vs,H1,I1,r1,q1⟩=>?g) hs rfl))
 case g=>
 obtain ⟨l,b,e,⟨xs,q2⟩,q⟩:=q1
 subst e
 obtain ⟨u1,rfl,e1⟩:=rN r1
 obtain rfl:u1=Value.ref l:=e1
 obtain ⟨x1,v1,o1,_⟩:=I1.obAt q2
 refine aCm o1 fun h' zt kp=>?g
 case g=>
 obtain ⟨⟨u0,zt1⟩,zt2⟩:=id zt
 refine wpAny_pyIter_enum (s:={ s1 with heap:=h' }) zt1 ?g
 case g=>
 refine ⟨_,[s1.heap.objs.size+1,s1.heap.objs.size],_,_,H1,rfl,I1.kept (t':=s1.toks) kp,aCq (mj (nc _)),zt,fun c hb=>?g,q⟩
 case g=>
 have lb:s1.heap.objs.size<=c:=by
  simp only [bj,ng,or_false] at hb
  rcases hb with rfl | rfl <;> first | exact ni _ _ | exact ay _
 exact I1.fpOk lb (I1.hok.fresh lb)
theorem zC {X:Cx}{K:ae}{es:List Expr}{k:Nat}{po:Pos}{a:Expr}{ta:TA}{p pos:Pos}(hK:X.K=K)(hg:Gl X "enumerate")(hm:X.mg "enumerate" = none)(ha:PA X [a] ta)(hs:fm [a] X.env=[(false,eval a X.env)]:=by rfl) :
  PI X (.Tuple es k po) (.Call (.Name "enumerate" p) [a] [] pos) (aDw K ta):=by subst hK;exact aFC hg hm ha hs
theorem zJ {K:ae}{b:Bool}{l:Addr}{xs:List V}{g:TG}{tb:TS}{D:mJ}{σ:St}{H:Hp}(Pv:Nat->St->Hp->Prop)(h0:Pv 0 σ H)(hl:∀ i σ H,i<=xs.length->Pv i σ H->SqB b K H l xs)
  (hs:∀ i x σ H p,xs[i]?=some x->H p=none->Pv i σ H->g (.ref p) σ (upd H p (.tup [.int (i:Int),x])) fun σ2 H2=>tb { D with nx:=Pv (i+1),ct:=Pv (i+1),bk:=D.nx } σ2 H2) (hd:∀ σ H,Pv xs.length σ H->D.nx σ H) :
  jE (Ite K b l) g tb D σ H:=by
 refine ⟨fun i m σ H=>m=xs.length - i/\i<=xs.length/\Pv i σ H,⟨xs.length,by simp,bh _,h0⟩,?g⟩
 case g=>
 rintro i m σ H ⟨rfl,hi,p⟩
 have q1:=hl i σ H hi p
 by_cases hlt:i<xs.length
 ·refine .inr ⟨⟨xs,xs[i],q1,by simp [hlt]⟩,Pv (i+1),fun σ' H' p'=>⟨xs.length - (i+1),by omega,rfl,hlt,p'⟩,fun v H' ⟨a,x,e1,e2,e3,e4⟩=>?g⟩
  case g=>
  subst e1;subst e3
  exact hs i x σ H a (e4 xs q1) e2 p
 ·obtain rfl:i=xs.length:=by omega
  exact .inl ⟨⟨xs,q1,ay _⟩,hd σ H p⟩
theorem aBh {K:ae}{vars:List Nat}{tb:TS}{acc l:Addr}{b:Bool}{σ:St}{H:Hp}{xs:List V}{j k:Nat}{L:Nat->List V}(hj:j∈vars)(hk:k∈vars)(hjk:k≠j)(hjl:j<σ.length)(hkl:k<σ.length)(hs:∀ H',SameX acc H H'->SqB b K H' l xs)
  (h:∀ (i:Nat) (x:V) σ' H',xs[i]?=some x->σ'.length=σ.length->Agree vars σ σ'->σ'[j]?=some (some (.int (i:Int)))->σ'[k]?=some (some x)->SameX acc H H'->(∃ pre,H' acc=some (.lst pre))->Emits vars tb acc σ' H' (L i)) :
  Emits vars (jE (Ite K b l) (qE K 2 (cO (aL j) (cO (aL k) rG))) tb) acc σ H ((ar xs.length).flatMap L):=by
 intro D pre ha hz hd
 refine zJ (K:=K) (xs:=xs) (D:=D) (fun i σ' H'=>i<=xs.length/\σ'.length=σ.length/\Agree vars σ σ'/\SameX acc H H'/\H' acc=some (.lst (pre++(ar i).flatMap L))) ⟨bh _,rfl,Agree.refl _ _,SameX.refl _ _,by simpa using ha⟩ (fun i σ1 H1 _ ⟨_,_,_,sx1,_⟩=>hs H1 sx1) (fun i x σ1 H1 p hx hp ⟨_,hl1,ag1,sx1,e1⟩=>?_) fun σ1 H1 ⟨_,hl1,ag1,sx1,e1⟩=>hd σ1 H1 hl1 ag1 sx1 e1
 have hi:i<xs.length:=(ai.mp hx).1
 have hle:=dY L (show i+1<=xs.length from hi)
 rw [bI,au] at hle
 have sp:Same H1 (upd H1 p (.tup [.int (i:Int),x])):=aJ hp _
 have e2:=sp _ _ e1
 refine ⟨p,[.int (i:Int),x],rfl, .of aF,rfl, .int (i:Int),[x],rfl,x,[],rfl,rfl,?_⟩
 have ag2:Agree vars σ ((σ1.set j (some (.int (i:Int)))).set k (some x)):=(ag1.trans (Agree.set hj _)).trans (Agree.set hk _)
 refine h i x ((σ1.set j (some (.int (i:Int)))).set k (some x)) (upd H1 p (.tup [.int (i:Int),x])) hx (by rw [d8,d8];exact hl1) ag2 ?_ (kT (by rw [d8];omega)) (sx1.trans sp.x) ⟨_,e2⟩ _ _ e2 (by rw [au];omega) fun σ' H' hl ag sx h2=>⟨hi,(hl.trans (by rw [d8,d8])).trans hl1,ag2.trans ag,(sx1.trans sp.x).trans sx,by rw [h2,bI,gg]⟩
 rw [gp hjk]
 exact kT (by omega)
end L2
namespace L2
open PySem
section
variable {X:Cx}{es:List Expr}{te:TE}{t:TA}
theorem aV {c:Const}{k:Nat}{p:Pos}(ha:PE X (.Constant c k p) te)(hr:PA X es t):PA X (.Constant c k p :: es) (aB te t):=cW ha hr
theorem aC {n:Str}{p:Pos}(ha:PE X (.Name n p) te)(hr:PA X es t):PA X (.Name n p :: es) (aB te t):=cW ha hr
theorem cY {l:List Expr}{k:Nat}{p:Pos}(ha:PE X (.Tuple l k p) te)(hr:PA X es t):PA X (.Tuple l k p :: es) (aB te t):=cW ha hr
theorem cA {a b:Expr}{o:Operator}{p:Pos}(ha:PE X (.BinOp a o b p) te)(hr:PA X es t):PA X (.BinOp a o b p :: es) (aB te t):=cW ha hr
theorem bO {a b:Expr}{p:Pos}(ha:PE X (.Subscript a b p) te)(hr:PA X es t):PA X (.Subscript a b p :: es) (aB te t):=cW ha hr
theorem bA {a:Expr}{l:List Expr}{kw:List Keyword}{p:Pos}(ha:PE X (.Call a l kw p) te)(hr:PA X es t):PA X (.Call a l kw p :: es) (aB te t):=cW ha hr
end
mutual
def aIy:Dt->Bool
 | .tup ds=>decide (ds.length<64) && aFI ds
 | .lst ds=>aFI ds
 | _=>true
def aFI:List Dt->Bool
 | []=>true
 | d :: ds=>aIy d && aFI ds
end
def okM (m e:Nat) (d:Dt):Prop:=(toP d).showable=true/\(toP d).leavesShort 1930=true/\(toP d).bulk<=m/\dep d<=e/\aIy d=true
def Am (K:ae) (H:Hp) (m e:Nat) (x:V):Prop:=∃ d,Sh K H d x/\okM m e d
def Goo (K:ae) (H:Hp) (v:V):Prop:=∃ d,Sh K H d v/\okR d/\aIy d=true
section
variable {K:ae}{H H':Hp}
theorem Am.same {m e:Nat}{x:V}(s:Same H H'):Am K H m e x->Am K H' m e x:=fun ⟨d,h,o⟩=>⟨d,h.same s,o⟩
theorem Goo.same {v:V}(s:Same H H'):Goo K H v->Goo K H' v:=fun ⟨d,h,o⟩=>⟨d,h.same s,o⟩
def Tu (K:ae) (H:Hp) (m e k:Nat) (v:V):Prop:=∃ a xs,v = .ref a/\SqT K H a xs/\xs.length<=k/\∀ x∈xs,Am K H m e x
theorem Tu.same {m e k:Nat}{v:V}(s:Same H H'):Tu K H m e k v->Tu K H' m e k v:=fun ⟨a,xs,h1,h2,h3,h4⟩=>⟨a,xs,h1,s.tup h2,h3,fun x hx=>(h4 x hx).same s⟩
end
theorem aAa {c:Int}{n k:Nat}{H:Hp}{Q:VK}(h:1<=n)(e:c % (n:Int)=(k:Int))(q:Q (.int (k:Int)) H):xD (.int c) (.int (n:Int)) H Q:=⟨_,_,rfl,rfl,by omega,by show Q (.int (c % (n:Int))) H;rw [e];exact q⟩
end L2
namespace L2
open PySem PySem.Spec PyProof.Rows
inductive sH:List (Value × Value)->List (Int × Int)->Prop
 | nil:sH [] []
 | cons (a b:Int) (t u:Tok) {r:List (Value × Value)} {zs:List (Int × Int)}:sH r zs->sH ((.int a t, .int b u) :: r) ((a,b) :: zs)
def zF (f:Bool):List (Int × Int)->Bool
 | []=>f
 | (a,b) :: r=>if a=b then zF f r else decide (a<b)
theorem vY {prog:Program}{w:World}{A:Around}{E:Value->Shared->Prop}{s:Shared}{a b:Int}{t u:Tok}{Q:Value->Shared->Prop}(h:Q (.bool (decide (a<b))) s):wpAny (model prog w) A (Ah .Lt (.int a t) (.int b u)) Q E s:=lt_int h
theorem aBx (l b:Addr)(us vs:Array Value)(n n2:Nat)(dd dd2:Option Addr)(sl sl2:Array (Option Value))(zs:List (Int × Int))(hz:sH (us.toList.zip vs.toList) zs) :
  Meets (Builtin.«tuple.__lt__» ⟨[.ref l, .ref b],[]⟩)
   (fun _ R s=>s.heap.get? l=some { cls := .type "tuple",dict:=dd,data := .seq us n,slots:=sl }/\s.heap.get? b=some { cls := .type "tuple",dict:=dd2,data := .seq vs n2,slots:=sl2 }/\R (.ok (.ret (.bool (zF (decide (us.size<vs.size)) zs)))) s):=
 .of_wp fun prog w A R s h=>by
  obtain ⟨s1,s2,s3,s4,s5⟩:=s
  obtain ⟨gl,gb,h⟩:=h
  have f2:=AutoSeq1.sub_tuple_tuple
  wp_walk using js gl,js gb,p0 _ (fun rest b s'=>b.1=none/\s'=⟨s1,s2,s3,s4,s5⟩/\∃ ys,sH rest ys/\R (.ok (.ret (.bool (zF (decide (us.size<vs.size)) ys)))) ⟨s1,s2,s3,s4,s5⟩) _
  case turn=>
   rintro ⟨y,x⟩ rest b s' ⟨hb',rfl,ys,hy,hR⟩
   cases hy with
   | cons p q t u hr=>
    refine aa (xr ?_)
    by_cases e:p=q
    ·rw [show (p == q)=true by simpa using e]
     rw [zF,if_pos e] at hR
     wp_walk
     exact ⟨rfl,rfl,_,hr,hR⟩
    ·rw [show (p == q)=false by simpa using e]
     rw [zF,if_neg e] at hR
     wp_walk using vY
     exact ⟨_,rfl,hR⟩
  case fin=>
   rintro ⟨b1,b2⟩ s' ⟨hb',rfl,ys,hy,hR⟩
   simp only at hb'
   subst hb'
   cases hy
   wp_walk
   exact ⟨_,rfl,hR⟩
  case h=>
   exact ⟨rfl,rfl,zs,hz,h⟩
section
variable {prog:Program}{w:World}{A:Around}{R:zq->Shared->Prop}{It:Addr}{fp wr:List Addr}{n:Nat}{P:Nat->Value->Prop}{St:Nat->Heap->Prop}
def aJa (prog:Program) (w:World) (A:Around) (kp:Heap->Prop) (P:Nat->Value->Prop) (bt:Nat->Nat->Bool):Prop:=
 ∀ i j x y (s:Shared) (Q:Value->Shared->Prop) (E:Value->Shared->Prop),kp s.heap->P i x->P j y->Q (.bool (bt i j)) s->wpAny (model prog w) A (Ah .Lt x y) Q E s
def Kp (kp:Heap->Prop) (wr:List Addr) (z:Addr):Prop:=∀ h h',kp h->(∀ b o,b∉wr->b≠z->h.get? b=some o->h'.get? b=some o)->kp h'
theorem aJA (W:Walks prog w A.in1 It fp wr n P St)(bt:Nat->Nat->Bool){kp:Heap->Prop}(z:Addr)(hz:z∉fp)(kk:Kp kp wr z)(hc:aJa prog w A.in1 kp P bt) :
  ∀ (k j:Nat) (s:Shared) (x:Value) (c:Nat),n - (j+1)=k->j+1<=n->kp s.heap->St (j+1) s.heap->P (og bt j) x->s.heap.get? z=some { cls := .type "list",dict:=none,data := .seq #[x,x] c,slots:=#[] } ->
  (∀ v h' tk,P (og bt (n - 1)) v->(∀ b o,b∉wr->b≠z->s.heap.get? b=some o->h'.get? b=some o)->R (.ok (.ret v)) { s with heap:=h',toks:=tk }) ->
  uq (model prog w) A (.builtin "min.loop" ⟨[.ref It, .none, .ref z],[]⟩) R s:=by
 have zw:z∉wr:=fun h=>hz (W.sub _ h)
 have nm:(AD "min" ++ AD ".loop" : String)="min.loop":=by decide
 intro k
 induction k with
 | zero=>
  intro j s x c hk hj kp0 st px gz hR
  have en:j+1=n:=by omega
  refine i5 xw ?g
  case g=>
  rw [i8 kl _];show wpAny _ A.in1 (AB (.ref z) >>= _) _ _ s;refine aa (jz gz rfl ?g)
  case g=>
  show wpAny _ A.in1 (tryCatch (wg (.ref It)) _ >>= _) _ _ s;refine aa (wa (W.done s _ _ (en ▸ st) fun h' tk kh=>?g))
  case g=>
  show wpAny _ A.in1 (updateSeq z (fun _=>#[]) >>= _) _ _ _;refine aa (yq (kh z _ zw gz) rfl (aa (xi (ak ?g))))
  case g=>
  exact hR x _ tk (by rw [<- en];exact px) fun b o bw bz e=>(kc _ _ (jk bz)).trans (kh b o bw e)
 | succ k ih=>
  intro j s x c hk hj kp0 st px gz hR
  have lt:j+1<n:=by omega
  refine i5 xw ?g
  case g=>
  rw [i8 kl _];show wpAny _ A.in1 (AB (.ref z) >>= _) _ _ s;refine aa (jz gz rfl ?g)
  case g=>
  show wpAny _ A.in1 (tryCatch (wg (.ref It)) _ >>= _) _ _ s;refine aa (wa (W.item (j+1) s _ _ lt st fun v h' tk pv st' kh=>?g))
  case g=>
  have gz':=kh z _ zw gz
  have kp1:kp h':=kk _ _ kp0 fun b o bw _ e=>kh b o bw e
  show wpAny _ A.in1 (tryCatch (xb [v,v] (Ah .Lt v x >>= _)) _ >>= _) _ _ _;refine aa (wa (fj (aa (hc (j+1) (og bt j) v x _ _ _ kp1 pv px ?g))))
  case g=>
  refine aa (fj (ir (aa (xi (ak ?g)))))
  case g=>
  cases hb:bt (j+1) (og bt j) with
  | true=>
   simp only [if_true];refine aa (yq gz' rfl (aa (xi ?g)))
   case g=>
   have up:∀ b o,b≠z->h'.get? b=some o->(h'.update z (ji fun _=>#[v,v])).get? b=some o:=fun b o bz e=>(kc _ _ (jk bz)).trans e
   rw [nm];refine ak ⟨oz kl _,ih (j+1) _ v _ (by omega) lt (kk _ _ kp1 fun b o _ bz e=>up b o bz e) (W.frame _ _ _ st' fun b bf o e=>up b o (fun q=>hz (by rw [<- q];exact bf)) e) (by simp only [og,hb,if_true];exact pv) (i4 _ gz' rfl) fun v' h2 tk2 pv' kh2=>?g⟩
   case g=>
   exact hR v' h2 tk2 pv' fun b o bw bz e=>kh2 b o bw bz (up b o bz (kh b o bw e))
  | false=>
   simp only [dm,if_false];refine aa (xi ?g)
   case g=>
   rw [nm];refine ak ⟨oz kl _,ih (j+1) _ x c (by omega) lt kp1 st' (by simp only [og,hb,dm,if_false];exact px) gz' fun v' h2 tk2 pv' kh2=>?g⟩
   case g=>
   exact hR v' h2 tk2 pv' fun b o bw bz e=>kh2 b o bw bz (kh b o bw e)
theorem aJx (W:Walks prog w A.in1 It fp wr n P St)(bt:Nat->Nat->Bool){kp:Heap->Prop}(z:Addr)(hz:z∉fp)(kk:Kp kp wr z)(hc:aJa prog w A.in1 kp P bt)(hn:0<n){s:Shared}{c:Nat}(kp0:kp s.heap)(st:St 0 s.heap)(gz:s.heap.get? z=some { cls := .type "list",dict:=none,data := .seq #[] c,slots:=#[] })
  (hR:∀ v h' tk,P (og bt (n - 1)) v->(∀ b o,b∉wr->b≠z->s.heap.get? b=some o->h'.get? b=some o)->R (.ok (.ret v)) { s with heap:=h',toks:=tk }) :
  uq (model prog w) A (.builtin "min.loop" ⟨[.ref It, .none, .ref z],[]⟩) R s:=by
 have zw:z∉wr:=fun h=>hz (W.sub _ h)
 have nm:(AD "min" ++ AD ".loop" : String)="min.loop":=by decide
 refine i5 xw ?g
 case g=>
 rw [i8 kl _];show wpAny _ A.in1 (AB (.ref z) >>= _) _ _ s;refine aa (jz gz rfl ?g)
 case g=>
 show wpAny _ A.in1 (tryCatch (wg (.ref It)) _ >>= _) _ _ s;refine aa (wa (W.item 0 s _ _ hn st fun v h' tk pv st' kh=>?g))
 case g=>
 have gz':=kh z _ zw gz
 have kp1:kp h':=kk _ _ kp0 fun b o bw _ e=>kh b o bw e
 have up:∀ b o,b≠z->h'.get? b=some o->(h'.update z (ji fun _=>#[v,v])).get? b=some o:=fun b o bz e=>(kc _ _ (jk bz)).trans e
 show wpAny _ A.in1 (updateSeq z (fun _=>#[v,v]) >>= _) _ _ _;refine aa (yq gz' rfl ?g)
 case g=>
 rw [nm];refine ak ⟨oz kl _,aJA W bt z hz kk hc _ 0 _ v _ rfl hn (kk _ _ kp1 fun b o _ bz e=>up b o bz e) (W.frame _ _ _ st' fun b bf o e=>up b o (fun q=>hz (by rw [<- q];exact bf)) e) pv (i4 _ gz' rfl) fun v' h2 tk2 pv' kh2=>?g⟩
 case g=>
 exact hR v' h2 tk2 pv' fun b o bw bz e=>kh2 b o bw bz (up b o bz (kh b o bw e))
end
section
variable {prog:Program}{w:World}{A:Around}{E:Value->Shared->Prop}{s:Shared}
theorem aAx {x:Value}{Q:Value->Shared->Prop}
  (h:wpAny (model prog w) A.in1 (AR x) (fun it s₂=>∃ It fp wr n P St bt,∃ kp:Heap->Prop,it = .ref It/\Walks prog w A.in1 It fp wr n P St/\St 0 s₂.heap/\(∀ b∈fp,b<s₂.heap.objs.size)/\0<n/\kp s₂.heap/\(∀ z,s₂.heap.objs.size<=z->Kp kp wr z)/\aJa prog w A.in1 kp P bt /\
   ∀ v h' tk,P (og bt (n - 1)) v->(∀ b o,b∉wr->s₂.heap.get? b=some o->h'.get? b=some o)->Q v { s₂ with heap:=h',toks:=tk }) E s) :
  wpAny (model prog w) A (call (.builtin "min") [x]) Q E s:=by
 have nm:(AD "min" ++ AD ".loop" : String)="min.loop":=by decide
 refine call_function_tree F.kind_min F.plain_min F.entry_min (F.args_min1 _) ?g
 case g=>
 show wpAny _ A.in1 (uy "min" ["key","default"] 0 ⟨[],[]⟩ >>= _) _ _ s;refine aa (uv (show uy "min" ["key","default"] 0 ⟨[],[]⟩=pure [none,none] from rfl) (aa (ak (aa (iq h (fun it s2 h2=>?g) fun _ _ e=>e)))))
 case g=>
 obtain ⟨It,fp,wr,n,P,St,bt,kp,rfl,W,st,hf,hn,kp0,kk,hc,hQ⟩:=h2
 refine aa (gf ?g)
 case g=>
 have zf:s2.heap.objs.size∉fp:=fun m=>kn _ (hf _ m)
 have kz:=kk s2.heap.objs.size (ay _)
 rw [nm];refine ak ⟨oz kl _,aJx W bt s2.heap.objs.size zf kz hc hn (kz _ _ kp0 fun b o _ _ e=>ao _ e) (W.frame _ _ _ st fun b _ o e=>ao _ e) (bp _ rfl) fun v h' tk pv kh=>?g⟩
 case g=>
 exact hQ v h' tk pv fun b o bw e=>kh b o bw (d0 (br e)) (ao _ e)
end
def fO:List Int->List Int->Bool
 | [],[]=>false
 | [],_ :: _=>true
 | _ :: _,[]=>false
 | a :: r,b :: q=>if a=b then fO r q else decide (a<b)
theorem yN:∀ (ns ms:List Int),zF (decide (ns.length<ms.length)) (ns.zip ms)=fO ns ms
 | [],[]=>rfl
 | [],m :: ms=>by simp [zF,fO]
 | n :: ns,[]=>by simp [zF,fO]
 | n :: ns,m :: ms=>by
  rw [vp,zF,fO,<- yN ns ms]
  have:decide ((n :: ns).length<(m :: ms).length)=decide (ns.length<ms.length):=by
   by_cases h:ns.length<ms.length <;> simp [h]
  rw [this]
theorem pB:∀ ns:List Int,fO ns ns=false
 | []=>rfl
 | n :: ns=>by rw [fO,if_pos rfl];exact pB ns
theorem kB:∀ {a b c:List Int},fO a b=true->fO b c=true->fO a c=true
 | [],[],_,h,_=>by cases h
 | [],_ :: _,[],_,h=>by cases h
 | [],_ :: _,_ :: _,_,_=>rfl
 | _ :: _,[],_,h,_=>by cases h
 | _ :: _,_ :: _,[],_,h=>by cases h
 | x :: a,y :: b,z :: c,h1,h2=>by
  rw [fO] at h1 h2 ⊢
  by_cases e1:x=y <;> by_cases e2:y=z
  ·subst e1 e2
   rw [if_pos rfl] at h1 h2 ⊢
   exact kB h1 h2
  ·subst e1
   rw [if_neg e2] at h2 ⊢
   exact h2
  ·subst e2
   rw [if_neg e1] at h1 ⊢
   exact h1
  ·rw [if_neg e1] at h1
   rw [if_neg e2] at h2
   have g1:=of_decide_eq_true h1
   have g2:=of_decide_eq_true h2
   rw [if_neg (by omega)]
   exact decide_eq_true (by omega)
theorem lG {bt:Nat->Nat->Bool}(irr:∀ i,bt i i=false)(tr:∀ i j k,bt i j=true->bt j k=true->bt i k=true):∀ k j,j<=k->bt j (og bt k)=false
 | 0,j,h=>by
  obtain rfl:j=0:=by omega
  exact irr 0
 | k+1,j,h=>by
  unfold og
  by_cases c:bt (k+1) (og bt k)=true
  ·rw [if_pos c]
   by_cases e:j=k+1
   ·subst e;exact irr _
   ·refine Bool.eq_false_iff.mpr fun q=>?_
    have:=lG irr tr k j (by omega)
    rw [tr _ _ _ q c] at this
    cases this
  ·rw [if_neg c]
   by_cases e:j=k+1
   ·subst e;simpa using c
   ·exact lG irr tr k j (by omega)
theorem aEv:∀ {ns ms:List Int} {us vs:List Value},IntsAre us ns->IntsAre vs ms->sH (us.zip vs) (ns.zip ms)
 | [],_,_,_,h,_=>by cases h;exact .nil
 | _ :: _,[],_,_,h,g=>by cases g;cases h;exact .nil
 | n :: ns,m :: ms,_,_,h,g=>by
  cases h with
  | cons _ t h=>
   cases g with
   | cons _ u g=>exact .cons n m t u (aEv h g)
theorem aFd {prog:Program}{w:World}{A:Around}{E:Value->Shared->Prop}{s:Shared}{a b:Addr}{us vs:List Value}{ns ms:List Int}{Q:Value->Shared->Prop}(hu:A.units<cLine)(ha:IsTup s.heap a us.toArray)(hb:IsTup s.heap b vs.toArray)(h1:IntsAre us ns)(h2:IntsAre vs ms)(q:Q (.bool (fO ns ms)) s) :
  wpAny (model prog w) A (Ah .Lt (.ref a) (.ref b)) Q E s:=by
 obtain ⟨⟨oc,od,odt,osl⟩,e1,c1,n1,d1⟩:=ha
 obtain ⟨⟨pc,pd,pdt,psl⟩,e2,c2,n2,d2⟩:=hb
 subst c1 d1 c2 d2
 refine richCompare_meets_room (op := .Lt) ⟨_,e1,rfl⟩ ⟨_,e2,rfl⟩ F.slot_tuple_lt F.entry_tuple_lt (F.args_tuple_lt_2 _ _) (aBx a b us.toArray vs.toArray n1 n2 od pd osl psl (ns.zip ms) (aEv h1 h2)) ⟨e1,e2,?g⟩ hu
 case g=>
 have l1:=IntsAre.len h1
 have l2:=IntsAre.len h2
 rw [aq,aq,l1,l2,yN]
 exact ⟨fun z=>(by cases z),q⟩
def aES (K:ae):List V->Hp->VK->Prop:=fun vs H Q=>∃ (a:Addr) (xs:List V) (T:List (List Int)),vs=[.ref a]/\Sq K H a xs/\Rows K H xs T/\T≠[]/\∀ (i:Nat) (b:Addr) (row:List Int),xs[i]?=some (.ref b)->T[i]?=some row->SqT K H b (row.map V.int)->(∀ r∈T,fO r row=false)->Q (.ref b) H
theorem aBD {X:Cx}{k:Nat}(hr:Room k X.A)(hc:X.calm=true):CallR X (.builtin "min") (aES X.K):=by
 intro pins s σ H vs us Q I r ⟨a,xs,T,e,hq,hR,hne,q⟩
 subst e
 obtain ⟨u,rfl,ru⟩:=r.one
 obtain rfl:u=Value.ref a:=ru
 refine aAx (pG (I.ok.hd hc) I hq fun its It fp wr S s2 rv hz W st hf hI=>?g)
 case g=>
 have hl:its.length=T.length:=by rw [<- rv.length,hR.1]
 have hpos:0<T.length:=Ae.mpr hne
 have item:∀ (i:Nat) (v:Value),its[i]?=some v->∃ b row,v = .ref b/\T[i]?=some row/\xs[i]?=some (.ref b)/\SqT X.K H b (row.map V.int):=fun i v hv=>by
  obtain ⟨x,hx,rx⟩:=rv.getR hv
  have hi:i<T.length:=by rw [<- hR.1];exact (ai.mp hx).1
  obtain ⟨b,e1,e2⟩:=hR.2 i _ (ah hi)
  rw [e1] at hx
  cases hx
  exact ⟨b,_,rx,ah hi,e1,e2⟩
 refine ⟨It,fp,wr,its.length,_,S,fun i j=>fO (T.getD i []) (T.getD j []),fun h=>∀ b o,b∉wr->s2.heap.get? b=some o->h.get? b=some o,rfl,W,st,hf,by omega,fun b o _ e=>e,fun z hz0 h h' k1 k2 b o bw e=>k2 b o bw (fun q0=>Nat.not_lt.mpr hz0 (q0 ▸ br e)) (k1 b o bw e),fun i j vi vj s' Q' E' kp hi hj hQ'=>?g,fun v h' tk hv hk=>?h⟩
 case g=>
  obtain ⟨b1,r1,rfl,t1,_,q1⟩:=item i vi hi
  obtain ⟨b2,r2,rfl,t2,_,q2⟩:=item j vj hj
  have I':=hI s'.heap s'.toks kp
  obtain ⟨us1,v1,p1,_⟩:=I'.tuple q1
  obtain ⟨us2,v2,p2,_⟩:=I'.tuple q2
  refine aFd (ns:=r1) (ms:=r2) (us:=us1) (vs:=us2) (by have:=hr.un;show X.A.units+1<cLine;omega) p1 p2 (gA v1) (gA v2) ?g
  case g=>
  have e1:T.getD i []=r1:=by rw [aj,t1];rfl
  have e2:T.getD j []=r2:=by rw [aj,t2];rfl
  have hQ2:Q' (Value.bool (fO (T.getD i []) (T.getD j []))) s':=hQ'
  rw [e1,e2] at hQ2
  exact hQ2
 case h=>
  obtain ⟨b,row,rfl,t1,e1,q1⟩:=item _ v hv
  refine ⟨.ref b,H,hI h' tk hk,rfl,q _ b row e1 t1 q1 fun r0 hr0=>?g⟩
  case g=>
  obtain ⟨j,hj,rfl⟩:=mr hr0
  have:=lG (bt:=fun i j=>fO (T.getD i []) (T.getD j [])) (fun i=>pB _) (fun i j k=>kB) (its.length - 1) j (by omega)
  have e1:T.getD j []=T[j]:=by rw [aj,ah hj];rfl
  have e2:T.getD (og (fun i j=>fO (T.getD i []) (T.getD j [])) (its.length - 1)) []=row:=by rw [aj,t1];rfl
  have g:fO (T.getD j []) (T.getD (og (fun i j=>fO (T.getD i []) (T.getD j [])) (its.length - 1)) [])=false:=this
  rw [e1,e2] at g
  exact g
theorem aAj {X:Cx}{K:ae}{k:Nat}(hK:X.K=K)(hr:Room k X.A)(hc:X.calm=true):CallR X (.builtin "min") (aES K):=by subst hK;exact aBD hr hc
abbrev aDN (K:ae):List V->Hp->VK->Prop:=fun vs H Q=>aJe K vs H Q\/aES K vs H Q
theorem nE {X:Cx}{K:ae}{k:Nat}(hK:X.K=K)(hr:Room k X.A)(hc:X.calm=true):CallR X (.builtin "min") (aDN K):=by
 intro pins s σ H vs us Q I r h
 rcases h with h | h
 ·exact aBl hK hc pins s σ H vs us Q I r h
 ·exact aAj hK hr hc pins s σ H vs us Q I r h
abbrev yI:List V->Hp->VK->Prop:=fun xs H Q=>(∃ i,xs=[.int i]/\Q (.int i) H)\/∃ k,xs=[.bl k]/\Q (.int (if k then 1 else 0)) H
theorem nK {X:Cx}:CallR X (.type "int") yI:=aBc
section
variable {prog:Program}{w:World}{A:Around}{E:Value->Shared->Prop}{s:Shared}
end
section
variable {prog:Program}{w:World}{A:Around}{E:Value->Shared->Prop}{s:Shared}
end
end L2
namespace L2
open PySem
end L2
namespace L2
open PySem PySem.Spec PyProof.Rows
section
variable {prog:Program}{w:World}{A:Around}{E:Value->Shared->Prop}{s:Shared}
end
section
variable {X:Cx}
end
end L2
namespace L2
open PySem
section
variable {X:Cx}
def aGR:V->List V->Hp->VK->Prop:=fun x vs H Q=>∃ (l:Addr) (ns:List Int) (i:Int) (j:Nat),x = .ref l/\vs=[.int i]/\H l=some (.lst (ns.map V.int))/\ns[j]?=some i/\(∀ m,m<j->ns[m]?≠some i)/\Q .non (upd H l (.lst ((ns.eraseIdx j).map V.int)))
theorem qL {ns:List Int}{its:List Value}(r:Vals (ns.map V.int) its){m:Nat}{y:Value}(h:its[m]?=some y):∃ n t,ns[m]?=some n/\y = .int n t:=by
 have hm:m<its.length:=(ai.mp h).1
 have hl:(ns.map V.int).length=its.length:=r.length
 rw [af] at hl
 have e:ns[m]?=some ns[m]:=ah (by omega)
 obtain ⟨u,hu,t,ru⟩:=r.get (i:=m) (x := .int ns[m]) (by rw [az,e];rfl)
 rw [h] at hu
 cases hu
 exact ⟨ns[m],t,e,ru⟩
theorem aCu:∀ (ns:List Int) (j:Nat),(ns.map V.int).eraseIdx j=(ns.eraseIdx j).map V.int
 | [],_=>rfl
 | _ :: _,0=>rfl
 | n :: ns,j+1=>by
  show V.int n :: (ns.map V.int).eraseIdx j=V.int n :: (ns.eraseIdx j).map V.int
  rw [aCu ns j]
theorem aFP:MtM X "list.remove" aGR:=by
 intro pins s σ H x vs v us Q I rx rv h
 obtain ⟨l,ns,i,j,rfl,rfl,hH,hj,hno,q⟩:=h
 cases rx
 obtain ⟨u,rfl,ru⟩:=rv.one
 obtain ⟨t,rfl⟩:=ru
 obtain ⟨z,its,n,r,hl,e⟩:=I.lstM hH
 have hjn:j<ns.length:=(ai.mp hj).1
 have hlen:its.length=ns.length:=by rw [<- r.length,af]
 have hji:j<its.length:=by omega
 let f:Value->Bool:=fun y=>match y with | .int a _=>a == i | _=>false
 have he:∀ y,y∈its.toArray->MeetsSeq.EqGives y (.int i t) (f y):=fun y hy=>by
  obtain ⟨m,hm⟩:=gi.mp (by simpa using hy:y∈its)
  obtain ⟨a,tk,_,rfl⟩:=qL r hm
  exact MeetsSeq.EqGives.int a i tk t
 have at':∀ m (hm:m<its.length),∃ a tk,ns[m]?=some a/\its[m] = .int a tk:=fun m hm=>by
  obtain ⟨a,tk,e1,e2⟩:=qL r (ah hm)
  exact ⟨a,tk,e1,e2⟩
 refine wk F.slot_list_remove ⟨_,e,rfl⟩ F.entry_list_remove (F.args_list_remove_2 _ _)
  (MeetsSeq.list_remove l its.toArray n (.int i t) f he j (by rw [aq];exact hji) ?_ ?_ (by rw [aq];omega)) ⟨e,?_⟩
 ·obtain ⟨a,tk,e1,e2⟩:=at' j hji
  rw [hj] at e1
  cases e1
  show f its[j]=true
  rw [e2]
  show (i == i)=true
  simp
 ·intro m hm hmj
  obtain ⟨a,tk,e1,e2⟩:=at' m (by rw [aq] at hm;exact hm)
  show f its[m]=false
  rw [e2]
  show (a == i)=false
  have:=hno m hmj
  rw [e1] at this
  simp
  intro c
  exact this (by rw [c])
 ·have r':Vals ((ns.eraseIdx j).map V.int) (its.eraseIdx j):=by
   have:=r.eraseIdx j
   rw [show (ns.map V.int).eraseIdx j=(ns.eraseIdx j).map V.int from (aCu ns j)] at this
   exact this
  refine ⟨.non,_,I.lset (its':=its.eraseIdx j) hH e ?_ r' ?_,rfl,q⟩
  ·show its.toArray.eraseIdxIfInBounds j=(its.eraseIdx j).toArray
   rw [List.eraseIdxIfInBounds_toArray]
  ·rw [af,ve hjn]
   have e3:(ns.map V.int).length=ns.length:=af ..
   omega
end
end L2
namespace L2
open PySem PySem.Spec PyProof.Rows
section
variable {prog:Program}{w:World}{A:Around}{E:Value->Shared->Prop}{s:Shared}
end
section
variable {X:Cx}
end
section
variable {X:Cx}
end
end L2
namespace L2
open PySem
structure aJJ (mg:Str->Option Value):Prop extends aJv mg where
 set:mg "set" = none
theorem aHk:fi "set" = some (.type "set"):=by decide +kernel
section
variable {X:Cx}
def aHV (K:ae) (ta:TE):TT:=fun σ H Q=>ta σ H fun x H'=>∃ k,aIz K x H' k/\Q k H'
theorem aCJ {K:ae}{a:Expr}{ta:TE}(hK:X.K=K)(ha:PE X a ta)(he:∀ whole,isTrue a X.env whole=(do let v <- whole;Ab a.pos;xb [v] (truthy v))):PT X a (aHV K ta):=by
 subst hK
 exact aDz ha he
end
structure lJ (mg:Str->Option Value):Prop extends aJJ mg where
 abs:mg "abs" = none
theorem vB:fi "abs" = some (.builtin "abs"):=by decide +kernel
def zT:List V->Hp->VK->Prop:=fun xs H Q=>∃ i:Int,xs=[.int i]/\Q (.int (if i<0 then -i else i)) H
theorem jN {X:Cx}:CallR X (.builtin "abs") zT:=aDg
section
variable {vars:List Nat}{tb:TS}{acc a:Addr}{σ:St}{H:Hp}{j:Nat}{D:mJ}{K:ae}
end
def EmR (K:ae) (vars:List Nat) (tb:TS) (acc:Addr) (σ:St) (H:Hp) (L:List (List Int)):Prop:=
 ∀ (D:mJ) (pre:List V) (R:List (List Int)),H acc=some (.lst pre)->Rows K H pre R->R.length+L.length<=100000->(∀ σ' H' pre',σ'.length=σ.length->Agree vars σ σ'->SameX acc H H'->H' acc=some (.lst pre')->Rows K H' pre' (R++L)->D.nx σ' H')->tb D σ H
section
variable {K:ae}{vars:List Nat}{tb:TS}{acc:Addr}{σ:St}{H:Hp}
theorem EmR.cast {L L':List (List Int)}(h:EmR K vars tb acc σ H L)(e:L=L'):EmR K vars tb acc σ H L':=e ▸ h
theorem xU {ta:TA}{r:List Int}(hr:r.length<=100)(h:∀ Q:List V->Hp->Prop,Q (r.map V.int) H->ta σ H Q):EmR K vars (eX (gW ta) acc) acc σ H [r]:=by
 intro D pre R ha hR hz hd
 refine h _ ⟨by rw [af];exact et hr (by decide),fun t ht=>?_⟩
 have st:=aJ ht (.tup (r.map V.int))
 have ha':=st _ _ ha
 refine ⟨pre,ha',bc (show pre.length<=100000 by rw [hR.1];omega) (by decide),?_⟩
 exact hd σ _ _ rfl (Agree.refl _ _) (st.x.trans (SameX.put _)) aF (Rows.snoc (Rows.put (hR.same st) ha') (aCw (.of aF) ha'))
theorem yV {lo:Int}{n j:Nat}{L:Nat->List (List Int)}(hj:j∈vars)(hjl:j<σ.length)
  (h:∀ i σ' H',i<n->σ'.length=σ.length->Agree vars σ σ'->σ'[j]?=some (some (.int (lo+(i:Int))))->SameX acc H H'->EmR K vars tb acc σ' H' (L i)) :
  EmR K vars (jE (Itr lo n) (aL j) tb) acc σ H ((ar n).flatMap L):=by
 intro D pre R ha hR hz hd
 refine cZ (lo:=lo) (n:=n) (g:=aL j) (D:=D) (fun i σ' H'=>i<=n/\σ'.length=σ.length/\Agree vars σ σ'/\SameX acc H H'/\∃ pre',H' acc=some (.lst pre')/\Rows K H' pre' (R++(ar i).flatMap L)) ⟨bh _,rfl,Agree.refl _ _,SameX.refl _ _,pre,ha,by simpa using hR⟩ (fun i σ1 H1 hi ⟨_,hl1,ag1,sx1,pre1,h1,r1⟩=>?_) fun σ1 H1 ⟨_,hl1,ag1,sx1,pre1,h1,r1⟩=>hd σ1 H1 pre1 hl1 ag1 sx1 h1 r1
 have hle:=dY L (show i+1<=n from hi)
 rw [bI,au] at hle
 refine h i (σ1.set j (some (.int (lo+(i:Int))))) H1 hi (by rw [d8];exact hl1) (ag1.trans (Agree.set hj _)) (kT (by omega)) sx1 _ pre1 _ h1 r1 (by rw [au];omega) fun σ' H' pre' hl ag sx h2 r2=>⟨hi,hl.trans ((d8 ..).trans hl1),(ag1.trans (Agree.set hj _)).trans ag,sx1.trans sx,pre',h2,by rw [bI,<- gg];exact r2⟩
theorem tR (vars:List Nat)(L:List (List Int)){g:TG}{J:It}{D:mJ}(ha:H acc=none)(hz:L.length<=100000)(h:EmR K vars (jE J g tb) acc σ (upd H acc (.lst [])) L)
  (q:∀ σ' H' pre,Same H H'->H' acc=some (.lst pre)->Rows K H' pre L->D.nx σ' H'):jE J g tb D σ (upd H acc (.lst [])):=
 h _ [] [] aF Rows.nil (by simpa using hz) fun σ' H' pre' _ _ sx h1 h2=>q σ' H' pre' (dH ha sx) h1 (by simpa using h2)
end
end L2
namespace L2
open PySem PySem.Spec PyProof.Rows
open PySem.SeqAt
section
variable {X:Cx}{tg:Expr}
end
section
variable {X:Cx}{pins:List (Addr × Obj)}{σ:St}{H:Hp}{s:Shared}
end
theorem KV.len {κ:Type}:∀ {l:List (κ × V)} {m:List (κ × Value)},KV l m->l.length=m.length
 | _,_, .nil=>rfl
 | _,_, .cons _ t=>by rw [cw,cw,KV.len t]
theorem KV.at {κ:Type}:∀ {l:List (κ × V)} {m:List (κ × Value)},KV l m->∀ {i:Nat} {k:κ} {x:Value},m[i]?=some (k,x)->∃ v,l[i]?=some (k,v)
 | _,_, .nil,_,_,_,h=>by cases h
 | _,_, .cons (a:=p) (b:=q) r t,0,k,x,h=>by
  have e:q=(k,x):=by simpa using h
  exact ⟨p.2,by rw [List.getElem?_cons_zero,show p=(k,p.2) from Ay (by rw [r.1,e]) rfl]⟩
 | _,_, .cons _ t,i+1,k,x,h=>KV.at t (i:=i) (by simpa using h)
structure aEK (K:ae)(C:Addr):Prop where
 ga:j3 K (.ref C) "__getattribute__" = some (some (.builtin "BaseException.__getattribute__"))
 gn:j3 K (.ref C) "__getattr__" = some none
 cl:j3 K (.ref C) "__class__" = some (some (.builtin "object.__class__"))
 gt:wx K (.builtin "object.__class__") "__get__" = some (some (.builtin "getset_descriptor.__get__"))
 tk:yr K (.builtin "object.__class__")=some true
 ob:xk K C (.type "object")=some true
 bx:AE K (.ref C) (.type "BaseException")=some true
 is:(ui K C).isSome=true
def XAt (h:Heap) (x C:Addr):Prop:=∃ o,h.get? x=some o/\o.cls = .ref C
section
open Builtin Builtin.ObjectAttr Builtin.Getset_descriptor
variable {prog:Program}{w:World}{A:Around}{E:Value->Shared->Prop}{s:Shared}{K:ae}{x C:Addr}{R:zq->Shared->Prop}
theorem XAt.type {M:Model}{h:Heap}(I:XAt h x C):o4 M h (typeOf (.ref x)) (.ref C):=by
 obtain ⟨o,e,c⟩:=I
 exact c ▸ (PySem.W.Looks.ld e).andThen .now
theorem XAt.find {M:Model}{h:Heap}(X:K.In h)(Y:aEK K C):o4 M h (find (.ref x) (.ref C) "__class__") (.bind (.builtin "getset_descriptor.__get__") (.builtin "object.__class__")):=by
 have L1:=ub (M:=M) X Y.cl
 have L2:o4 M h (getOf (some (.builtin "object.__class__"))) (some (.builtin "getset_descriptor.__get__")):=PySem.W.looks_specialIn X Y.gt
 have L3:=PySem.W.looks_takesIn (M:=M) X Y.tk
 exact L1.andThen (L2.andThen ((show o4 M h (dataDescriptor? (some (.builtin "object.__class__")) (some (.builtin "getset_descriptor.__get__"))) (some (.builtin "getset_descriptor.__get__", .builtin "object.__class__")) from L3.andThen .now).andThen (PySem.W.Looks.tag .now)))
theorem aAg {tp:Value}(X:K.In s.heap)(I:XAt s.heap x C)(hm:xk K C (.type "object")=some true)
  (h:R (.ok (.ret (.ref C))) s):uq (model prog w) A (.call (.builtin "getset_descriptor.__get__") ⟨[.builtin "object.__class__", .ref x,tp],[]⟩) R s:=by
 obtain ⟨hh,g,dr,t,os⟩:=s
 have L0:=I.type (M:=model prog w)
 have L1:=PySem.W.looks_mroIn (M:=model prog w) X hm
 refine uc PySem.W.KF.slot_gs.plain PySem.W.KF.entry_gs (PySem.W.KF.slot_gs.check _ _ _ _ _ _ _ _ PySem.W.KF.type_class (PySem.W.KF.args_gs _ _ _) ?_)
 unfold Builtin.«getset_descriptor.__get__» descrGet
 rw [PySem.W.dga_obj]
 refine aa (ak ?_)
 unfold descrGetter descrCheckInstance descrNameAndClass zc
 simp only [PySem.W.KF.owner_class]
 repeat lk
 refine ⟨vo _ (by decide +kernel),i5 PySem.W.KF.entry_class ?_⟩
 unfold Builtin.«object.__class__» shownTypeOf
 repeat lk
 exact h
theorem aDv {M:Model}{nameV:Value}{Q:Unit->Shared->Prop}(X:K.In s.heap)(I:XAt s.heap x C)(Y:aEK K C)(hq:Q () s) :
  wpAny M A (xx "BaseException.__getattribute__" ⟨[.ref x,nameV],[]⟩) Q E s:=by
 obtain ⟨h,g,d,t,os⟩:=s
 have hk:builtinKind "BaseException.__getattribute__" = some .slot:=by decide +kernel
 have hsplit:splitId "BaseException.__getattribute__" = some ("BaseException","__getattribute__"):=by decide +kernel
 have L0:=I.type (M:=M)
 have L1:=PySem.W.looks_subIn (M:=M) X Y.bx
 have ha:=F.args_bexc_ga (.ref x) nameV
 simp only [xx,hk,hsplit]
 refine aa ?_
 unfold zc
 refine aa (L0.at (L1.at ?_))
 repeat (any_goals (first | assumption | wp_step))
theorem aBR {Q:Option Value->Shared->Prop}(X:K.In s.heap)(I:XAt s.heap x C)(Y:aEK K C)(h:Q (some (.ref C)) { s with toks:=s.toks+1 }) :
  wpAny (model prog w) A (getAttr? (.ref x) "__class__") Q E s:=by
 obtain ⟨hh,g,d,t,os⟩:=s
 have L0:=I.type (M:=model prog w)
 have L1:=ub (M:=model prog w) X Y.ga
 have L2:=ub (M:=model prog w) X Y.gn
 have L3:=XAt.find (M:=model prog w) (x:=x) X Y
 have hx2:(Value.builtin "BaseException.__getattribute__" == Value.builtin "object.__getattribute__")=false:=by decide +kernel
 have hx1:(onTheHeap (Value.ref C) && Value.builtin "BaseException.__getattribute__" == Value.builtin "object.__getattribute__")=false:=by rw [hx2];rfl
 unfold getAttr? getAttrBy? getAttrBy
 refine aa (wpAny_mkText (aa (qq (fj (aa (L0.at (aa (L1.at ?_))))))))
 dsimp only
 rw [hx1,if_neg bu]
 unfold getAttrByItsOwn hookBefore
 rw [if_pos (show onTheHeap (Value.ref C)=true from rfl)]
 refine aa (L2.at (aa (qq (fj ?_))))
 unfold callGetattribute
 rw [Bool.false_and,if_neg bu]
 unfold boundAndCalled
 rw [F.attr_ValueError.ga.bind]
 refine aa (ak ?_)
 refine AJ (uc F.attr_ValueError.ga.plain F.entry_bexc_ga (aDv X I Y ?_))
 unfold Builtin.«object.__getattribute__»
 refine aa (ak (aa (ak (aa (L0.at (aa (L3.at ?_)))))))
 show wpAny _ _ (do let v <- xb [Value.builtin "object.__class__"] (call (Value.builtin "getset_descriptor.__get__") [Value.builtin "object.__class__",Value.ref x,Value.ref C]);ret v) _ _ _
 refine aa (fj (AJ (aAg (s:=⟨hh,g,d,t+1,os⟩) X I Y.ob (ak ?_))))
 refine PySem.W.handed_on rfl (ak h)
theorem uT (Y:aEK K C):PySem.W.KitX K (.ref x) (.ref C) (fun h=>XAt h x C) where
 ty:=fun _ _ _ I=>I.type
 it:=fun _ _ X _=>by
  obtain ⟨cd,hc⟩:=gc.mp Y.is
  unfold ui at hc
  split at hc
  ·rename_i c' d' cd' sl' ho
   intro A' Q' E' s' k q
   unfold isType loadHead
   exact aa (wpAny_loadPart (k _ _ (X _ _ ho)) (ak q))
  ·cases hc
 ne:=fun h tp dd its n sl X htp=>by
  obtain ⟨cd,hc⟩:=gc.mp Y.is
  refine Bool.eq_false_iff.mpr fun q=>?_
  have e:C=tp:=Value.ref.inj (beq_iff_eq.mp q)
  subst e
  unfold ui at hc
  split at hc
  ·rename_i c' d' cd' sl' ho
   have z:=(X _ _ ho).symm.trans htp
   cases z
  ·cases hc
 ca:=fun X I k=>aBR X I Y k
end
def rY (a C:Addr):HO := .ext fun h=>XAt h a C
theorem aFp {P:Program}{w:World}{H:Hp}{h:Heap}{a C:Addr}(x:XAt h a C):ObjOk P w H h a (rY a C):=
 ⟨x,let ⟨o,e,_⟩:=x;⟨o,e⟩,fun _ _ ⟨o,e,c⟩ k=>⟨o,k o e,c⟩⟩
def aJy (K:ae) (H:Hp) (C:Addr) (c:V) (b:Bool):Prop:=
 (∃ n,c = .ty n/\e9 K (.ref C) (.type n)=some b)\/(∃ D,c = .ref D/\e9 K (.ref C) (.ref D)=some b) \/
  ∃ (tp:Addr) (Ds:List Addr),c = .ref tp/\H tp=some (.tup (Ds.map V.ref))/\sd K (.ref C) (Ds.map Value.ref)=some b
def yZ (K:ae):List V->Hp->VK->Prop:=fun vs H Q=>∃ a C c b,vs=[.ref a,c]/\H a=some (rY a C)/\aEK K C/\aJy K H C c b/\Q (.bl b) H
theorem uZ:∀ {Ds:List Addr} {us:List Value},Vals (Ds.map V.ref) us->us=Ds.map Value.ref
 | [],_, .nil=>rfl
 | _ :: _,_, .cons r t=>by
  obtain rfl:=r
  rw [uZ t];rfl
section
variable {X:Cx}
theorem aDs:CallR X (.builtin "isinstance") (yZ X.K):=by
 intro pins s σ H xs us Q I r ⟨a,C,c,b,e,ha,Y,hc,q⟩
 subst e
 obtain ⟨u,v,rfl,rx,rc⟩:=r.two
 obtain rfl:u=Value.ref a:=rx
 have fin:∀ t:Nat,EP X pins σ Q (.bool b) { s with toks:=t }:=fun t=>⟨.bl b,H,I.tok t,rfl,q⟩
 have xa:XAt s.heap a C:=(I.hok a _ ha).1
 rcases hc with ⟨n,rfl,k⟩ | ⟨D,rfl,k⟩ | ⟨tp,Ds,rfl,ht,k⟩
 ·obtain rfl:v=Value.type n:=rc
  exact PySem.W.kia_one (uT Y) I.kIn xa k (by intro z;cases z) fin
 ·obtain rfl:v=Value.ref D:=rc
  exact PySem.W.kia_one (uT Y) I.kIn xa k (by intro z;cases z) fin
 ·obtain rfl:v=Value.ref tp:=rc
  obtain ⟨_,its,rv,o,e1,e2,⟨m,e3⟩,_⟩:=I.hok tp _ ht
  obtain ⟨oc,od,dt,sl⟩:=o
  dsimp only at e2 e3
  subst e2 e3
  obtain rfl:=uZ rv
  exact PySem.W.kia_tup (uT Y) I.kIn xa e1 k (by intro z;cases z) fin
theorem iD {K:ae}(hK:X.K=K):CallR X (.builtin "isinstance") (yZ K):=by subst hK;exact aDs
end
abbrev aFy:List Value:=[.type "ValueError", .type "Exception", .type "BaseException", .type "object"]
theorem aEQ {K:ae}{h:Heap}{C:Addr}{bmB:List Value}{newId:String}(X:K.In h)(q:ku K C bmB newId=true) :
  ∃ bm N nm qn bs hdct sn sub ab col dd k0 k1 k2 k3 k5 mN,h.get? C=some (excClassObj nm qn C N bs bm hdct sn sub ab col dd k0 k1 k2 k3 k5 newId)/\h.Ns N mN/\mN "__init__" = none/\OwnTail h bmB bm:=by
 unfold ku at q
 split at q
 ·rename_i dd cd sl ho
  split at q
  ·rename_i C' bm k0 k1 k2 k3 n k5 hm hs
   simp only [ff,beq_iff_eq,Bool.not_eq_true'] at q
   obtain ⟨⟨⟨⟨⟨rfl,rfl⟩,hdel⟩,ht⟩,hok⟩,hni⟩:=q
   obtain ⟨nm,bs,mro,ns,qn,hd,sn,sub,ab,col,del⟩:=cd
   dsimp only at hm hdel hok hni
   subst hm hdel
   have hsl:sl=#[k0,k1,k2,k3,some (.builtin n),k5]:=by
    obtain ⟨l⟩:=sl
    simp only at hs
    rw [hs]
   subst hsl
   exact ⟨bm,ns,nm,qn,bs,hd,sn,sub,ab,col,dd,k0,k1,k2,k3,k5,_,X _ _ ho, .of_isNs (PySem.W.isNs_of_in X hok),PySem.W.nsMap_none_of_in X hok hni,PySem.W.tail_of_in X ht⟩
  ·cases q
 ·cases q
def aCa (X:Cx) (E:XK):Prop:=∀ (pins:List (Addr × Obj)) (σ:St) (H:Hp) (s:Shared) (cls:Value) (e:Addr) (vs:List Value) (h':Heap),Inv X pins σ H s->E cls none H->Heap.MadeExcOf s.heap h' e cls vs->X.xe (.ref e) { s with heap:=h' }
def vZ (C:Addr) (E:XK):TS:=fun _ _ H=>E (.ref C) none H
section
variable {X:Cx}{x:Str}{np cpos pos p:Pos}{C:Addr}{E:XK}{m:Str}{j:Nat}
theorem aDn (T:aCa X E)(hc:X.calm=true)(hg:Gl X x)(hm:X.mg x=some (.ref C))(q:ku X.K C aFy "ValueError.__new__" = true)(hdb:(x == ("__debug__" : Str))=false:=by decide) :
  PS X (.Raise (some (.Call (.Name x np) [.Constant (.str m) j p] [] cpos)) none pos) (vZ C E):=by
 intro pins s σ H D I h
 obtain ⟨bm,N,nm,qn,bs,hdct,sn,sub,ab,col,dd,k0,k1,k2,k3,k5,mN,hC,hN,hni,TL⟩:=aEQ I.kIn q
 refine wpAny_Raise_call_subT (C:=C) (nm:=nm) (q:=qn) (N:=N) (bs:=bs) (bm:=bm) (hdct:=hdct) (sn:=sn) (sub:=sub) (ab:=ab) (col:=col) (dd:=dd) (k0:=k0) (k1:=k1) (k2:=k2) (k3:=k3) (k5:=k5)
  zh (mN:=mN) (TL.hasType zh.hasBase) (I.ok.hd hc) rfl hni (uS I hg hm ⟨rfl,?_⟩ hdb)
 refine zg (Calls.spliced_cons (Calls.Constant_str (k:=j) (pos:=p) (Calls.spliced_nil ⟨rfl,?_,hC,hN,TL,fun h' e hx=>?_⟩)))
 ·show 1<=ba
  decide
 ·exact T pins σ H _ _ e _ h' (I.tok _) h hx
end
def sU (P:Program) (w:World):CXT:=fun outer H s E e s'=>
 ∃ (a:Addr) (cls a0:Value) (H':Hp) (B:Heap),e = .ref a/\s'.os=s.os/\v8 s'.gens/\Un (frs outer) [] H H' s.heap s'.heap/\HOk P w H' s'.heap /\
  A0 B outer a cls a0 s'.heap/\(∀ b o,s'.heap.get? b=some o->b∉frs outer->(H' b≠none\/∃ o',s.heap.get? b=some o')->B.get? b=some o)/\E cls none H'
section
variable {X:Cx}{pins:List (Addr × Obj)}{σ:St}{H:Hp}{s:Shared}{E:XK}{a:Addr}{cls a0:Value}{B h2:Heap}
theorem ObjOk.there {P:Program}{w:World}{H:Hp}{h:Heap}{a:Addr}:∀ {o:HO},ObjOk P w H h a o->∃ u,h.get? a=some u
 | .lst _,⟨_,_,_,_,e⟩=>⟨_,e⟩
 | .tup _,⟨_,_,_,o,e,_⟩=>⟨_,e⟩
 | .dK _,⟨_,_,_,_,o,_,_,e,_⟩=>⟨_,e⟩
 | .dT _,⟨_,_,_,_,o,_,_,e,_⟩=>⟨_,e⟩
 | .set _ _,⟨o,_,_,_,e,_⟩=>⟨_,e⟩
 | .ins _ _ _,⟨_,_,_,e,_⟩=>⟨_,e⟩
 | .own _,⟨_,e⟩=>⟨_,e⟩
 | .xd _,⟨_,⟨_,_,_,e,_⟩,_⟩=>⟨_,e⟩
 | .rng _ _,⟨_,_,_,e⟩=>⟨_,e⟩
 | .frz _ _,⟨e,_⟩=>⟨_,e⟩
 | .tbl _,e=>⟨_,e⟩
 | .met _ _,e=>⟨_,e⟩
 | .ext _,⟨_,e,_⟩=>e
theorem zQ (hex:X.ex=[])(J:Inv X pins σ H s)(hfl:A0 B X.outer a cls a0 h2)(up:s.heap.UpToSlots h2)
  (cov:∀ b o,s.heap.get? b=some o->b∉frs X.stack->(H b≠none\/∃ o',X.s₀.heap.get? b=some o')->B.get? b=some o) (hE:E cls none H):sU X.prog X.w X.outer X.H₀ X.s₀ E (.ref a) { s with heap:=h2 }:=by
 have neL:∀ b o,X.s₀.heap.get? b=some o->b≠X.env.locals:=fun b o e=>d0 (cv (br e) J.ok.above)
 have nx:∀ b:Addr,b∉X.ex:=fun b z=>by rw [hex] at z;cases z
 have nst:∀ b,b≠X.env.locals->b∉frs X.outer->b∉frs X.stack:=fun b h1 h2 z=>(bj.mp (J.stkSub b z)).elim h1 h2
 have tr:∀ b u o,H b=some u->s.heap.get? b=some o->h2.get? b=some o:=fun b u o e q=>
  hfl.1 b o (cov b o q (fun z=>by rw [J.stkFree b z] at e;cases e) (.inl (by rw [e];exact fun z=>by cases z)))
 have ko:∀ b o,X.s₀.heap.get? b=some o->∀ o1,s.heap.get? b=some o1->b∉frs X.outer->h2.get? b=some o1:=fun b o e o1 q n=>hfl.1 b o1 (cov b o1 q (nst b (neL b o e) n) (.inr ⟨o,e⟩))
 refine ⟨a,cls,a0,H,B,rfl,J.os,J.bare,⟨fun b o e n hb _=>?_,fun b o e n hb _=>?_,fun b o e n _=>?_,fun b o e _=>?_,J.base.tups,J.base.frzs,J.base.tbls⟩,fun b u e=>?_,hfl,fun b o e n hc=>?_,hE⟩
 ·exact ko b o e o (J.base.keep b o e n hb (nx b)) hb
 ·obtain ⟨sl,e1⟩:=J.base.slot b o e n hb (nx b)
  obtain ⟨_,o2,e2,nf⟩:=J.funs.mem hb
  rw [e1] at e2;cases e2
  obtain ⟨sl',e3⟩:=up b _ e1 nf
  exact ⟨sl',e3⟩
 ·exact J.base.free b o e n (nx b)
 ·obtain ⟨o1,e1⟩:=J.base.there b o e (nx b)
  by_cases hb:b∈frs X.outer
  ·obtain ⟨_,o2,e2,nf⟩:=J.funs.mem hb
   obtain ⟨sl',e3⟩:=up b _ e2 nf
   exact ⟨_,e3⟩
  ·exact ⟨o1,ko b o e o1 e1 hb⟩
 ·refine (J.hok b u e).stay (fun c v hc q=>?_) (fun _ q=>q) fun _ _ q=>q
  rcases hc with z | z
  ·rw [z] at q ⊢;exact tr b u v e q
  ·exact tr c _ v z q
 ·rcases hc with hc | ⟨o',e'⟩
  ·cases hu:H b with
   | none=>exact absurd hu hc
   | some u=>
    obtain ⟨o1,e1⟩:=(J.hok b u hu).there
    have e2:=tr b u o1 hu e1
    rw [e] at e2;cases e2
    exact cov b o e1 (fun z=>by rw [J.stkFree b z] at hu;cases hu) (.inl hc)
  ·obtain ⟨o1,e1⟩:=J.base.there b o' e' (nx b)
   have e2:=ko b o' e' o1 e1 n
   rw [e] at e2;cases e2
   exact cov b o e1 (nst b (neL b o' e') n) (.inr ⟨o',e'⟩)
end
section
variable {P:Program}{w:World}{K:ae}{mg:Str->Option Value}{base:Heap}{N:List Str}{qual:Str}{scope:Scope}{f:Addr}{cd:Value}{A:Around}{outer:List Env}{s₀:Shared}{H₀:Hp}{E:XK}
theorem mU:aCa (zZ (sU P w) P w K mg base N qual scope f cd A outer s₀ H₀ E) E:=by
 intro pins σ H s cls e vs h' I hE hx
 have hin:∀ env∈(zZ (sU P w) P w K mg base N qual scope f cd A outer s₀ H₀ E).stack,∀ b,env.frame=some b->b∈frs (zZ (sU P w) P w K mg base N qual scope f cd A outer s₀ H₀ E).stack:=fun env he b hb=>ql.mpr ⟨env,he,hb⟩
 show wpAny _ _ _ _ _ _
 refine wpAny_leaves_madeW (base:=PySem.W.hideAll s.heap (frs (zZ (sU P w) P w K mg base N qual scope f cd A outer s₀ H₀ E).stack)) I.ok.frames rfl (fun b o q=>PySem.W.of_hideAll _ q) (PySem.W.funFrames_hide I.stack hin) hx fun h2 t x1 _ _ x4=>?_
 exact zQ (s:={ s with heap:=s.heap }) rfl I x1 ((Heap.UpToSlots.of_keeps hx.keeps).trans x4) (fun b o q n _=>Aa _ q n) hE
theorem aAs:mG (sU P w) (zZ (sU P w) P w K mg base N qual scope f cd A outer s₀ H₀ E) E:=by
 intro pins σ H s e s' I ⟨a,cls,a0,H',B,he,os,bare,un,hok,hfl,cov,hE⟩
 subst he
 have J:Inv (zZ (sU P w) P w K mg base N qual scope f cd A outer s₀ H₀ E) pins σ H' s':=I.call' os un hok bare (fun b z=>absurd z (by simp))
 show wpAny _ _ _ _ _ _
 refine wpAny_leaves_onW I.ok.frames rfl hfl fun h2 x1 x2=>?_
 exact zQ rfl J x1 x2 (fun b o q n hc=>cov b o q n (hc.elim .inl fun ⟨o',z⟩ => .inr (I.base.there b o' z (by simp [zZ])))) hE
end
section
variable {X:Cx}{pins:List (Addr × Obj)}{σ:St}{H:Hp}{s:Shared}
theorem aDB {M:Model}{A:Around}{E:Value->Shared->Prop}{i:Nat}{x:Str}{Q:Bool->Shared->Prop}(I:Inv X pins σ H s)(hN:X.N.Nodup)(hi:X.N[i]?=some x)
  (h:∀ s' m,s.heap.Ns X.env.locals m->Inv X pins (σ.set i none) H s'->Q (m x).isSome s'):wpAny M A (nsDel X.env.locals x) Q E s:=by
 obtain ⟨m,hn,hl⟩:=id I.loc
 have hiσ:i<σ.length:=by rw [I.len];exact (ai.mp hi).1
 have cne:=I.cne
 obtain ⟨oL,_,_,hoL,_⟩:=id hn
 refine wpAny_nsDel_keeps hn fun h' w' hn' hs=>?_
 refine h { s with heap:=h' } m hn ⟨I.ok,I.os,I.bare,⟨fun b o e n hb hx=>?_,fun b o e n hb hx=>?_,I.base.free,fun b o e hx=>?_,I.base.tups,I.base.frzs,I.base.tbls⟩,⟨_,hn',fun j y v' e1 e2 e3=>?_⟩,fun y c e=>?_,I.free,I.freeC,fun p hp=>?_,fun b ob e=>?_,by simpa using I.len⟩
 ·exact (hs.2 b (d0 (cv (br e) I.ok.above))).trans (I.base.keep b o e n hb hx)
 ·obtain ⟨sl,e1⟩:=I.base.slot b o e n hb hx
  exact ⟨sl,(hs.2 b (d0 (cv (br e) I.ok.above))).trans e1⟩
 ·obtain ⟨o',e1⟩:=I.base.there b o e hx
  exact ⟨o',(hs.2 b (d0 (cv (br e) I.ok.above))).trans e1⟩
 ·by_cases hj:j=i
  ·subst hj
   rw [gm hiσ] at e2
   cases e2
  ·rw [gp (jk hj)] at e2
   obtain ⟨u',r',q⟩:=hl j y v' e1 e2 e3
   refine ⟨u',r',?_⟩
   rcases q with ⟨k,e⟩ | ⟨k,c,e,z⟩
   ·refine .inl ⟨k,?_⟩
    have:y≠x:=fun e=>hj (tG hN e1 (e ▸ hi))
    simp [this,e]
   ·exact .inr ⟨k,c,e,z.sameBut hs (cne y c e)⟩
 ·obtain ⟨w',z⟩:=I.cell y c e
  exact ⟨w',z.sameBut hs (cne y c e)⟩
 ·obtain ⟨e,n,ne,nf,d⟩:=I.pin p hp
  exact ⟨(hs.2 p.1 ne).trans e,n,ne,nf,d⟩
 ·refine (I.hok b ob e).stay (fun c w' hc q=>(hs.2 c ?_).trans q) (fun _ q=>q) fun _ _ q=>q
  rintro rfl
  rcases hc with rfl | hc
  ·rw [I.free] at e;cases e
  ·rw [I.free] at hc;cases hc
theorem aDZ {i:Nat}{v w:Option V}:(σ.set i v).set i w=σ.set i w:=List.set_set ..
theorem lX {M:Model}{A:Around}{E:Value->Shared->Prop}{i:Nat}{x:Str}{pos:Pos}{Q:Unit->Shared->Prop}(I:Inv X pins σ H s)(hN:X.N.Nodup)(hi:X.N[i]?=some x)(hx:X.env.scope.names.lookup x=some .local)
  (h:∀ s',Inv X pins (σ.set i none) H s'->Q () s'):wpAny M A (do A6 X.env x .none;zi X.env x pos) Q E s:=by
 have hcls:(X.env.scope.kind == .class || (X.env.scope.kind == .module && X.env.locals != X.env.globals))=false:=by rw [I.ok.kind];rfl
 have hk:X.env.kindOf x=some .local:=hx
 refine aa (zp (kD (v := .non) I hN hi (.inl hx) rfl (fun s' I'=>?_) (.inr hx)))
 unfold zi
 refine wpAny_onRaise ?_
 unfold unbindName
 refine aa (wpAny_point (aa ?_))
 unfold deleteName
 simp only [hk,hcls]
 rw [if_neg (by decide)]
 refine aa (aDB I' hN hi fun s2 m hm I2=>?_)
 have hs:(m x).isSome=true:=by
  obtain ⟨m',hn',hl'⟩:=I'.loc
  obtain ⟨u,ru,q⟩:=hl' i x .non hi (gm (by rw [I.len];exact (ai.mp hi).1)) (.inl hx)
  rcases q with ⟨_,e⟩ | ⟨k,_⟩
  ·have:m=m':=by
    funext y
    obtain ⟨o,es,ep,ho,hd,hk',hm'⟩:=hm
    obtain ⟨o',es',ep',ho',hd',hk'',hm''⟩:=hn'
    rw [ho] at ho';cases ho'
    rw [hd] at hd';cases hd'
    rw [<- hm' y,<- hm'' y]
   rw [this,e];rfl
  ·rw [hk] at k;rcases k with k | k <;> cases k
 rw [hs]
 simp only [jf,dm,if_false]
 refine ak (wpAny_point (h s2 ?_))
 rw [aDZ] at I2
 exact I2
end
abbrev Cx.tried (X:Cx) (pn:List (Addr × Obj)) (W:Value->Shared->Prop):Cx:={ X with pn:=pn,xe:=W }
abbrev Cx.suite (X:Cx) (pn:List (Addr × Obj)) (a:Addr):Cx:={ X with pn:=pn,xe:=fun _ _=>False,A:=X.A.mark (some (.ref a)),calm:=false }
section
variable {X:Cx}{pins pn pins':List (Addr × Obj)}{σ:St}{H H':Hp}{s s':Shared}{W:Value->Shared->Prop}{a C:Addr}{cls a0:Value}{B h2:Heap}
theorem Inv.tried (I:Inv X pins σ H s)(W:Value->Shared->Prop):Inv (X.tried (X.pn++pins) W) [] σ H s:=
 ⟨⟨I.ok.mod,I.ok.kind,I.ok.glob,I.ok.blt,I.ok.above,I.ok.inj,I.ok.has,I.ok.cab,I.ok.hd,I.ok.frames,I.ok.stk,I.ok.exf,I.ok.bs,I.ok.bsz,I.ok.noex,I.ok.exfs,I.ok.funs,I.ok.frf⟩,I.os,I.bare,I.base,I.loc,I.cell,I.free,I.freeC,
  fun p hp=>I.pin p (by simpa using hp),I.hok,I.len⟩
theorem Inv.untried (I:Inv (X.tried (X.pn++pins) W) pins' σ H s):Inv X pins σ H s:=
 ⟨⟨I.ok.mod,I.ok.kind,I.ok.glob,I.ok.blt,I.ok.above,I.ok.inj,I.ok.has,I.ok.cab,I.ok.hd,I.ok.frames,I.ok.stk,I.ok.exf,I.ok.bs,I.ok.bsz,I.ok.noex,I.ok.exfs,I.ok.funs,I.ok.frf⟩,I.os,I.bare,I.base,I.loc,I.cell,I.free,I.freeC,
  fun p hp=>I.pin p (d5 _ hp),I.hok,I.len⟩
theorem Inv.suite (I:Inv X pins σ H s)(a:Addr):Inv (X.suite (X.pn++pins) a) [] σ H s:=
 ⟨⟨I.ok.mod,I.ok.kind,I.ok.glob,I.ok.blt,I.ok.above,I.ok.inj,I.ok.has,I.ok.cab,(fun z=>by cases z),I.ok.frames,I.ok.stk,I.ok.exf,I.ok.bs,I.ok.bsz,I.ok.noex,I.ok.exfs,I.ok.funs,I.ok.frf⟩,I.os,I.bare,I.base,I.loc,I.cell,I.free,I.freeC,
  fun p hp=>I.pin p (by simpa using hp),I.hok,I.len⟩
theorem Inv.unsuite (ok:X.Ok)(I:Inv (X.suite (X.pn++pins) a) pins' σ H s):Inv X pins σ H s:=
 ⟨ok,I.os,I.bare,I.base,I.loc,I.cell,I.free,I.freeC,fun p hp=>I.pin p (d5 _ hp),I.hok,I.len⟩
theorem vX (I:Inv X pins σ H s)(os:s'.os=s.os)(bare:v8 s'.gens)(un:Un (frs X.stack) [] H H' s.heap s'.heap)(hok:HOk X.prog X.w H' s'.heap)
  (cov:∀ b o,s'.heap.get? b=some o->b∉frs X.stack->(H' b≠none\/∃ o',s.heap.get? b=some o')->B.get? b=some o)
  (hfl:A0 B X.stack a (.ref C) a0 h2) (up:s'.heap.UpToSlots h2) (ha:∃ oe,s'.heap.get? a=some oe):H' a=none/\Inv X pins σ (upd H' a (rY a C)) { s' with heap:=h2 }:=by
 obtain ⟨f1,f2,f3,f4⟩:=id hfl
 have sf:∀ b∈frs X.stack,H' b=none:=fun b hb=>by
  obtain ⟨_,o,ho,_⟩:=I.stack.mem hb
  exact un.free b o ho (I.stkFree b hb) (by simp)
 have na:a∉frs X.stack:=fun hb=>by
  obtain ⟨_,o,ho,nf⟩:=f3.mem hb
  obtain ⟨oe,vs,_,_,_,e1,_,e2,_⟩:=f4
  rw [ho] at e1;cases e1
  exact nf vs e2
 have hn:H' a=none:=by
  cases q:H' a with
  | none=>rfl
  | some u=>
   obtain ⟨oe,e⟩:=ha
   have:=cov a oe e na (.inl (by rw [q];exact fun z=>by cases z))
   rw [f2] at this;cases this
 have hs:s.heap.get? a=none:=by
  cases q:s.heap.get? a with
  | none=>rfl
  | some o=>
   obtain ⟨oe,e⟩:=ha
   have:=cov a oe e na (.inr ⟨o,q⟩)
   rw [f2] at this;cases this
 have tr:∀ b u o,H' b=some u->s'.heap.get? b=some o->h2.get? b=some o:=fun b u o e q=>
  f1 b o (cov b o q (fun z=>by rw [sf b z] at e;cases e) (.inl (by rw [e];exact fun z=>by cases z)))
 have nb:∀ b o,s.heap.get? b=some o->b≠a:=fun b o e z=>by rw [z,hs] at e;cases e
 have nt:∀ b u,H' b=some u->b≠a:=fun b u e z=>by rw [z,hn] at e;cases e
 refine ⟨hn,I.call' (s':={ s' with heap:=h2 }) (ch:=[]) os ⟨fun b o e n hb _=>?_,fun b o e n hb _=>?_,fun b o e n _=>?_,fun b o e _=>?_,fun b xs e=>?_,fun b o u e=>?_,fun b ps e=>?_⟩ (fun b u e=>?_) bare (fun b z=>absurd z (by simp))⟩
 ·exact f1 b o (cov b o (un.keep b o e n hb (by simp)) hb (.inr ⟨o,e⟩))
 ·obtain ⟨sl,e1⟩:=un.slot b o e n hb (by simp)
  obtain ⟨_,o2,e2,nf⟩:=I.stack.mem hb
  rw [e] at e2;cases e2
  obtain ⟨sl',e3⟩:=up b _ e1 nf
  exact ⟨sl',e3⟩
 ·rw [aX (nb b o e)];exact un.free b o e n (by simp)
 ·obtain ⟨o1,e1⟩:=un.there b o e (by simp)
  by_cases hb:b∈frs X.stack
  ·obtain ⟨_,o2,e2,nf⟩:=I.stack.mem hb
   obtain ⟨sl,e3⟩:=un.slot b o2 e2 (I.stkFree b hb) hb (by simp)
   obtain ⟨sl',e4⟩:=up b _ e3 nf
   exact ⟨_,e4⟩
  ·exact ⟨o1,f1 b o1 (cov b o1 e1 hb (.inr ⟨o,e⟩))⟩
 ·have:=un.tups b xs e
  rw [aX (nt b _ this)];exact this
 ·have:=un.frzs b o u e
  rw [aX (nt b _ this)];exact this
 ·obtain ⟨more,this⟩:=un.tbls b ps e
  exact ⟨more,by rw [aX (nt b _ this)];exact this⟩
 ·by_cases hb:b=a
  ·subst hb
   rw [aF] at e;cases e
   obtain ⟨ob,e1,e2⟩:=hfl.there
   exact aFp ⟨ob,e1,e2⟩
  ·rw [aX hb] at e
   refine (hok b u e).stay (fun c v hc q=>?_) (fun c q=>by rw [aX (nt c _ q)];exact q) fun c xs q=>by rw [aX (nt c _ q)];exact q
   rcases hc with z | z
   ·rw [z] at q ⊢;exact tr b u v e q
   ·exact tr c _ v z q
end
def aJb (K:ae) (C0:Addr) (ie ln:Nat) (tb:XK->TS) (th:TS):TS:=fun D σ H=>
 tb (fun cls _ H1=>∃ C,cls = .ref C/\pq K (.ref C) (.ref C0)=some true/\∀ (a:Addr) (σ':St),H1 a=none->σ'.length=ln ->
  th { nx:=fun σ2 H2=>D.nx (σ2.set ie none) H2,rt:=D.rt,bk:=fun σ2 H2=>D.bk (σ2.set ie none) H2,ct:=fun σ2 H2=>D.ct (σ2.set ie none) H2 } (σ'.set ie (some (.ref a))) (upd H1 a (rY a C))) D σ H
section
variable {X:Cx}{x n:Str}{np pos hpos:Pos}{C0:Addr}{ie ln:Nat}{tb:XK->TS}{th:TS}{body suite:List Stmt}{b₀:Stmt}
theorem SP.untried {pins:List (Addr × Obj)}{W:Value->Shared->Prop}{D:mJ}{f:Flow}{s':Shared}(h:SP (X.tried (X.pn++pins) W) [] D f s'):SP X pins D f s':=by
 cases f with
 | next=>obtain ⟨σ',H',I,q⟩:=h;exact ⟨σ',H',I.untried,q⟩
 | brk=>obtain ⟨σ',H',I,q⟩:=h;exact ⟨σ',H',I.untried,q⟩
 | cont=>obtain ⟨σ',H',I,q⟩:=h;exact ⟨σ',H',I.untried,q⟩
 | ret u=>obtain ⟨v,σ',H',I,r,q⟩:=h;exact ⟨v,σ',H',I.untried,r,q⟩
theorem aHF (hst:X.stack=X.env :: X.outer)(hfr:X.env.frame=some X.env.locals)(hln:X.N.length=ln)(hN:X.N.Nodup)(hi:X.N[ie]?=some n)(hx:X.env.scope.names.lookup n=some .local)
  (hg:Gl X x) (hm:X.mg x=some (.ref C0)) (hb:∀ pn W E,mG (sU X.prog X.w) (X.tried pn W) E->PSs (X.tried pn W) body (tb E)) (hs:∀ pn a,PSs (X.suite pn a) (b₀ :: suite) th) (hdb:(x == ("__debug__" : Str))=false:=by decide) :
  PS X (.Try body [.ExceptHandler (some (.Name x np)) (some n) (b₀ :: suite) hpos] [] [] pos) (aJb X.K C0 ie ln tb th):=by
 intro pins s σ H D I h
 have hps:=hb (X.pn++pins) (fun e s'=>∃ pins' σ1 H1 s1,Inv (X.tried (X.pn++pins) fun _ _=>False) pins' σ1 H1 s1/\sU X.prog X.w X.stack H1 s1 _ e s') _ (fun pins' σ1 H1 s1 e s' I1 hl=>⟨pins',σ1,H1,s1,⟨⟨I1.ok.mod,I1.ok.kind,I1.ok.glob,I1.ok.blt,I1.ok.above,I1.ok.inj,I1.ok.has,I1.ok.cab,I1.ok.hd,I1.ok.frames,I1.ok.stk,I1.ok.exf,I1.ok.bs,I1.ok.bsz,I1.ok.noex,I1.ok.exfs,I1.ok.funs,I1.ok.frf⟩,I1.os,I1.bare,I1.base,I1.loc,I1.cell,I1.free,I1.freeC,I1.pin,I1.hok,I1.len⟩,hl⟩) [] s σ H D (I.tried _) h
 refine wpAny_Try_except (iq hps (fun f s1 q=>?_) fun e s1 q=>?_)
 ·cases f with
  | next=>exact um q.untried
  | brk=>exact q.untried
  | cont=>exact q.untried
  | ret u=>exact q.untried
 ·obtain ⟨pins',σ1,H1,s0,I1,a,cls,a0,H',B,he,os,bare,un,hok,hfl,cov,C,hc,hex,hth⟩:=q
  subst he hc
  have hfl0:=hfl
  rw [hst] at hfl
  have hfrm:X.A.frames=some (X.env :: X.outer):=by rw [<- hst];exact I.ok.frames
  obtain ⟨oe,hoe,_⟩:=hfl0.there
  refine wpAny_looks_onW hfrm hfr hfl fun h4 hheld4 up4=>?_
  refine wpAny_landsW hheld4 fun h5 hfl5 up5=>?_
  have up5':=up4.trans up5
  obtain ⟨hna,J5⟩:=vX (X:=X.tried (X.pn++pins) fun _ _=>False) I1 os bare un hok cov (by rw [hst];exact hfl5) up5' ⟨oe,hoe⟩
  have J5s:=J5.untried.suite a
  refine wpAny_handleBy_cons (codeAny_handlers_test (uS J5s hg hm ?_ hdb)) (by intro z;cases z)
  obtain ⟨ob,hob,hobc⟩:=hfl5.there
  have LT:o4 (model X.prog X.w) h5 (typeOf (.ref a)) (.ref C):=XAt.type ⟨ob,hob,hobc⟩
  refine (PySem.W.exm_one J5.kIn LT hex).at ?_
  refine codeAny_handlers_suite_as ?_
  refine lands_againW hfl5 fun h6 hfl6 up6=>?_
  obtain ⟨_,J6⟩:=vX (X:=X.tried (X.pn++pins) fun _ _=>False) I1 os bare un hok cov (by rw [hst];exact hfl6) (up5'.trans up6) ⟨oe,hoe⟩
  have J6s:=J6.untried.suite a
  refine kD (X:=X.suite (X.pn++pins) a) (v := .ref a) J6s hN hi (.inl hx) rfl (fun s7 J7=>?_) (.inr hx)
  refine iq (hs (X.pn++pins) a [] s7 _ _ _ J7 (hth a σ1 hna (by rw [I1.len];exact hln))) (fun f s8 q=>?_) fun _ _ z=>ki z
  cases f with
  | next=>
   obtain ⟨σ8,H8,J8,q8⟩:=q
   exact lX (X:=X.suite (X.pn++pins) a) J8 hN hi hx fun s9 J9=>⟨_,H8,J9.unsuite I.ok,q8⟩
  | brk=>
   obtain ⟨σ8,H8,J8,q8⟩:=q
   exact lX (X:=X.suite (X.pn++pins) a) J8 hN hi hx fun s9 J9=>⟨_,H8,J9.unsuite I.ok,q8⟩
  | cont=>
   obtain ⟨σ8,H8,J8,q8⟩:=q
   exact lX (X:=X.suite (X.pn++pins) a) J8 hN hi hx fun s9 J9=>⟨_,H8,J9.unsuite I.ok,q8⟩
  | ret u=>
   obtain ⟨v,σ8,H8,J8,r8,q8⟩:=q
   exact lX (X:=X.suite (X.pn++pins) a) J8 hN hi hx fun s9 J9=>⟨v,_,H8,J9.unsuite I.ok,r8,q8⟩
end
section
variable {X:Cx}{st:Stmt}{t:TS}{x:Str}{np pos hpos cpos p:Pos}{C C0:Addr}{E:XK}{m:Str}{j:Nat}{K:ae}
theorem PS.nox (h:PS X.nox st t):PS X st t:=fun pins s σ H D I hw=>
 iq (h pins s σ H D (I.wish _) hw) (fun _ _ q=>q.unwish) fun _ _ z=>ki z
theorem pP (hK:X.K=K)(T:aCa X E)(hc:X.calm=true)(hg:Gl X x)(hm:X.mg x=some (.ref C))(q:ku K C aFy "ValueError.__new__" = true)(hdb:(x == ("__debug__" : Str))=false:=by decide) :
  PS X (.Raise (some (.Call (.Name x np) [.Constant (.str m) j p] [] cpos)) none pos) (vZ C E):=aDn T hc hg hm (by rw [hK];exact q) hdb
theorem aFs {n:Str}{ie ln:Nat}{tb:XK->TS}{th:TS}{body suite:List Stmt}{b₀:Stmt}(hK:X.K=K)(hst:X.stack=X.env :: X.outer)(hfr:X.env.frame=some X.env.locals)(hln:X.N.length=ln)(hN:X.N.Nodup)(hi:X.N[ie]?=some n)(hx:X.env.scope.names.lookup n=some .local)
  (hg:Gl X x) (hm:X.mg x=some (.ref C0)) (hb:∀ pn W E,mG (sU X.prog X.w) (X.tried pn W) E->PSs (X.tried pn W) body (tb E)) (hs:∀ pn a,PSs (X.suite pn a) (b₀ :: suite) th) (hdb:(x == ("__debug__" : Str))=false:=by decide) :
  PS X (.Try body [.ExceptHandler (some (.Name x np)) (some n) (b₀ :: suite) hpos] [] [] pos) (aJb K C0 ie ln tb th):=by subst hK;exact aHF hst hfr hln hN hi hx hg hm hb hs hdb
end
structure DefX (P:Program)(w:World)(K:ae)(mg:Str->Option Value)(base:Heap)(x:Str)(k:Nat)(ps:List Str)(sp:Sp):Prop where
 ex:∃ (f:Addr) (fd:FuncData),FnOk P w K mg base (sU P w) k f fd ps sp/\mg x=some (.ref f)/\da K (.ref f)=true/\Binds K fd ps []
theorem DefX.mono {P:Program}{w:World}{K:ae}{mg:Str->Option Value}{base:Heap}{x:Str}{j k:Nat}{ps:List Str}{sp:Sp}(D:DefX P w K mg base x j ps sp)(h:j<=k):DefX P w K mg base x k ps sp:=by
 obtain ⟨f,fd,F,r⟩:=D.ex
 exact ⟨f,fd,F.mono h,r⟩
theorem yK {X:Cx}{x:Str}{k:Nat}{ps:List Str}{sp:Sp}{p pos:Pos}{e:Expr}{es:List Expr}{t:TA}{E:XK}(D:DefX X.prog X.w X.K X.mg X.base x k ps sp)(hr:Room k X.A)(hg:Gl X x)(hx:mG (sU X.prog X.w) X E)(ha:PA X (e :: es) t)
  (hdb:(x == ("__debug__" : Str))=false:=by decide) (he:fm (e :: es) X.env=(false,eval e X.env) :: fm es X.env:=by rfl) (hpl:(vg pos (fm es X.env)).any (·.1)=false:=by rfl) :
  PE X (.Call (.Name x p) (e :: es) [] pos) (bG sp [] E t):=by
 obtain ⟨f,fd,F,hm,hk,hb⟩:=D.ex
 exact aBu F hr hg hm hk hb .nil hx ha hdb he hpl
section
variable {P:Program}{w:World}{K:ae}{mg:Str->Option Value}{base:Heap}
theorem Fun.okX {x qual:Str}{st:Stmt}{f:Addr}{fd:FuncData}{N ps:List Str}{k:Nat}{sp:Sp}(F:Fun K x qual st f fd)(S:bV N ps (aO st))(len:∀ vs H Q E,sp vs H Q E->vs.length=ps.length)
  (hbody:∀ (cdv:Value) (A:Around) (outer:List Env) (s:Shared) (H:Hp) (vs:List V) (Q:VK) (E:XK),Room k (A.deeper (Aw qual (aO st) s.heap.objs.size f cdv))->sp vs H Q E ->
   ∃ t,PSs (zZ (sU P w) P w K mg base N qual (aO st) f cdv A outer s H E) (bL st) t/\t { nx:=fun _ H'=>Q .non H',rt:=Q } (bW N vs) H):FnOk P w K mg base (sU P w) (k+1) f fd ps sp:=by
 obtain ⟨oc,od,kV,doc,pm,an,cdv,ct,osl,rfl,lk,hcd⟩:=F.ex
 exact aGc lk hcd S len fun A outer s H vs Q E hr hsp=>hbody cdv A outer s H vs Q E hr hsp
end
theorem tU:fi ("ValueError" : Str)=some (.type "ValueError"):=PyProof.Rows.Boot.«ValueError»
end L2
namespace L2
open PySem
section
variable {X:Cx}
def aJc:V->List V->Hp->VK->Prop:=fun x vs H Q=>∃ (l:Addr) (xs:List V) (y:V) (j:Nat),x = .ref l/\vs=[y]/\H l=some (.lst xs)/\mS y=true/\xs.all mS=true/\(∃ z,xs[j]?=some z/\eqV z y=true)/\(∀ m z,m<j->xs[m]?=some z->eqV z y=false)/\Q (.int (j:Int)) H
theorem aGq:MtM X "list.index" aJc:=by
 intro pins s σ H x vs v us Q I rx rv h
 obtain ⟨l,xs,y,j,rfl,rfl,hH,fy,fs,⟨z,hz,hzy⟩,hno,q⟩:=h
 cases rx
 obtain ⟨u,rfl,ru⟩:=rv.one
 obtain ⟨zz,its,n,r,hl,e⟩:=I.lstM hH
 have hjx:j<xs.length:=(ai.mp hz).1
 have hji:j<its.length:=by omega
 have at':∀ m (hm:m<its.length),∃ w,xs[m]?=some w/\eqU y its[m]=eqV w y:=fun m hm=>by
  have e1:xs[m]?=some xs[m]:=ah (by omega)
  obtain ⟨u',hu',ru'⟩:=r.get e1
  rw [ah hm] at hu'
  cases hu'
  exact ⟨xs[m],e1,zO ru' (fg.mp fs _ (fb _))⟩
 refine wk F.slot_list_index ⟨_,e,rfl⟩ F.entry_list_index (F.args_list_index_2 _ _)
  (SeqAt.list_indexAt l its.toArray n none #[] u (eqU y) j (by rw [aq];exact hji) (Int.lt_of_lt_of_le (Int.ofNat_lt.mpr (cv hjx zz)) (by decide)) ?_ ?_) ⟨e,fun w hw=>iG ru fy r fs w (by simpa using hw),?_⟩
 ·obtain ⟨w,e1,e2⟩:=at' j hji
  rw [hz] at e1
  cases e1
  show eqU y its[j]=true
  rw [e2];exact hzy
 ·intro m hm hmj
  obtain ⟨w,e1,e2⟩:=at' m (by rw [aq] at hm;exact hm)
  show eqU y its[m]=false
  rw [e2];exact hno m w hmj e1
 ·exact ⟨.int (j:Int),H,I.tok _,⟨_,rfl⟩,q⟩
end
theorem aBB {X:Cx}:mG (sU X.prog X.w) X E0:=fun _ _ _ _ _ _ _ ⟨_,_,_,_,_,_,_,_,_,_,_,_,h⟩=>h.elim
section
variable {P:Program}{w:World}
def IsPairKey (P:Program) (w:World) (h:Heap) (k:List Int × Int) (a:Addr):Prop:=∃ o n b t,h.get? a=some o/\o.cls = .type "tuple"/\o.data = .seq #[.ref b, .int k.2 t] n/\ja (gq P w) h k.1 b
theorem IsPairKey.typeIs {s:Shared}{k:List Int × Int}{a:Addr}(x:IsPairKey P w s.heap k a):s.TypeIs (.ref a) "tuple":=let ⟨o,_,_,_,ho,hc,_⟩:=x;⟨o,ho,hc⟩
theorem IsPairKey.inj {h:Heap}{a:Addr}{x y:List Int × Int}(hx:IsPairKey P w h x a)(hy:IsPairKey P w h y a):x=y:=by
 obtain ⟨o,n,b,t,ho,_,hd,hi⟩:=hx
 obtain ⟨o',n',b',t',ho',_,hd',hi'⟩:=hy
 obtain rfl:o=o':=cu (ho.symm.trans ho')
 rw [hd] at hd'
 injection hd' with h1 _
 have h2:[Value.ref b, .int x.2 t]=[.ref b', .int y.2 t']:=congrArg AO h1
 injection h2 with h3 h4
 injection h4 with h5 _
 injection h3 with h3
 injection h5 with h5 _
 subst h3
 exact Ay (hi.inj hi') h5
theorem IsPairKey.keeps {h h':Heap}{k:List Int × Int}{a d:Addr}{o:Obj}{es ep}(x:IsPairKey P w h k a)(ho:h.get? d=some o)(hd:o.data = .dict es ep)(hs:iu d h h'):IsPairKey P w h' k a:=by
 obtain ⟨o',n,b,t,ho',hc,hd',hi⟩:=x
 have hne:a≠d:=by
  rintro rfl
  obtain rfl:o'=o:=cu (ho'.symm.trans ho)
  rw [hd] at hd';exact nomatch hd'
 exact ⟨o',n,b,t,(hs.2 a hne).trans ho',hc,hd',hi.keeps ho hd hs⟩
def tL (P:Program) (w:World) (k:List Int × Int):Int:=zd (fv [oq (gq P w) k.1,(gq P w).hash k.2])
variable {A:Around}{E:Value->Shared->Prop}{s:Shared}
theorem yC {k:List Int × Int}{a:Addr}{Q:Int->Shared->Prop}(hu:A.units+5<cLine)(hk:IsPairKey P w s.heap k a)(h:Q (tL P w k) { s with toks:=s.toks+(k.1.length+3) }) :
  wpAny (model P w) A (pyHash (.ref a)) Q E s:=by
 have hT:=hk.typeIs
 obtain ⟨o,n,b,t,ho,_,hd,hi⟩:=hk
 unfold pyHash
 first | unfold pyHashByItsType | skip
 first | refine aa (wpAny_cRoomFor_or (.inr (by omega)) ?_) | skip
 refine aa (mf hT o5.lookup ?_)
 show wpAny _ _ (if (some (Value.builtin "tuple.__hash__") == some Value.none)=true then _ else _) Q E s
 rw [if_neg (by rw [beq_builtin_none];exact bu)]
 refine aa (mf hT o5.lookup ?_)
 show wpAny _ _ (callSpecialIfBoundUnlessNone? (.ref a) "__hash__" _ >>= _) Q E s
 refine aa (wpAny_callSpecialIfBoundUnlessNone?_slot hT o5 (fw o5 hT F.entry_tuple_hash ?_ (F.args_tuple_hash_1 _)))
 show wpAny _ _ (o8 (.ref a) >>= _) _ _ s
 refine aa (vq ho hd ?_)
 refine aa ?_
 rw [<- n0]
 show wpAny _ _ (forIn [Value.ref b,Value.int k.2 t] #[] _) _ _ s
 rw [jr]
 refine aa (aa (wpAny_pyHash_tuple (knd:=gq P w) (show A.units+1<cLine by omega) hi (ak ?_)))
 show wpAny _ _ (forIn [Value.int k.2 t] #[oq (gq P w) k.1] _) _ _ _
 rw [jr]
 refine aa (aa ((gq P w).pyHash (k:=k.2) (v := .int k.2 t) (by show Value.isInt k.2 (.int k.2 t)=true;unfold Value.isInt;exact beq_self_eq_true _) (ak ?_)))
 show wpAny _ _ (forIn [] #[oq (gq P w) k.1,(gq P w).hash k.2] _) _ _ _
 rw [nq]
 refine ak ?_
 show wpAny _ _ (retInt (fv [oq (gq P w) k.1,(gq P w).hash k.2])) _ _ _
 refine wpAny_ret_mkInt ?_
 show wpAny _ _ (if (decide (-(2:Int) ^ 63<=fv [oq (gq P w) k.1,(gq P w).hash k.2]) && decide (fv [oq (gq P w) k.1,(gq P w).hash k.2]<2 ^ 63))=true then _ else _) Q E _
 unfold tL zd at h
 by_cases hr:(decide (-(2:Int) ^ 63<=fv [oq (gq P w) k.1,(gq P w).hash k.2]) && decide (fv [oq (gq P w) k.1,(gq P w).hash k.2]<2 ^ 63))=true
 ·rw [if_pos hr]
  rw [if_pos hr] at h
  exact ak (by simpa [Nat.add_assoc] using h)
 ·rw [if_neg hr]
  rw [if_neg hr] at h
  exact aa (uj (ak (by simpa [Nat.add_assoc] using h)))
theorem vG {x y:List Int × Int}{a b:Addr}{Pd:Fin->Shared->Prop}(hu:A.units<cLine)(hx:IsPairKey P w s.heap x a)(hy:IsPairKey P w s.heap y b)(h:Pd (.done (.ret (.bool (decide (x=y))))) s) :
  wpAny (model P w) A (Builtin.«tuple.__eq__» ⟨[.ref a, .ref b],[]⟩) Pd E s:=by
 have hTb:=hy.typeIs
 obtain ⟨oa,na,ia,ta,hoa,_,hda,hia⟩:=hx
 obtain ⟨ob,nb,ib,tb,hob,_,hdb,hib⟩:=hy
 show wpAny _ _ (zc (.ref b) (.type "tuple") >>= _) _ _ s
 refine aa (nh hTb so ?_)
 simp only [jf,dm,if_false]
 refine aa (vq hoa hda ?_)
 refine aa (vq hob hdb ?_)
 refine aa ?_
 show wpAny _ _ (forIn [(Value.ref ia,Value.ref ib),(Value.int x.2 ta,Value.int y.2 tb)] _ _) _ _ s
 rw [jr]
 refine aa (aa (vt (knd:=gq P w) hu hia hib ?_))
 by_cases h1:x.1=y.1
 ·rw [decide_eq_true h1]
  simp only [jf,dm,if_false]
  refine ak ?_
  show wpAny _ _ (forIn [(Value.int x.2 ta,Value.int y.2 tb)] _ _) _ _ s
  rw [jr]
  refine aa (aa (xr ?_))
  by_cases h2:x.2=y.2
  ·rw [show (x.2 == y.2)=true by rw [h2];exact beq_self_eq_true _]
   simp only [jf,dm,if_false]
   refine ak ?_
   show wpAny _ _ (forIn [] _ _) _ _ s
   rw [nq]
   refine ak (ak ?_)
   have e:decide (x=y)=true:=decide_eq_true (Ay h1 h2)
   rw [e] at h
   exact h
  ·rw [show (x.2 == y.2)=false by exact beq_false_of_ne h2]
   simp only [Bool.not_false,if_true]
   have e:decide (x=y)=false:=decide_eq_false fun z=>h2 (congrArg Prod.snd z)
   rw [e] at h
   exact aa (ak (ak (ak (ak h))))
 ·rw [decide_eq_false h1]
  simp only [Bool.not_false,if_true]
  have e:decide (x=y)=false:=decide_eq_false fun z=>h1 (congrArg Prod.fst z)
  rw [e] at h
  exact aa (ak (ak (ak (ak h))))
theorem xS {x y:List Int × Int}{a b:Addr}{Q:Bool->Shared->Prop}(hu:A.units+5<cLine)(hx:IsPairKey P w s.heap x a)(hy:IsPairKey P w s.heap y b)(h:Q (decide (x=y)) s) :
  wpAny (model P w) A (eqBool (.ref a) (.ref b)) Q E s:=by
 unfold eqBool
 try with_reducible refine fj ?_
 show wpAny _ _ (if (Value.ref a == Value.ref b)=true then _ else _) Q E s
 by_cases hab:(Value.ref a == Value.ref b)=true
 ·rw [if_pos hab]
  have e:a=b:=by have:=wj hab;injection this
  subst e
  obtain rfl:=hx.inj hy
  exact aa (uj (ak (by simpa using h)))
 ·rw [if_neg hab]
  exact aa (wpAny_richCompare_same_room (op := .Eq) hx.typeIs hy.typeIs uz
   (fw uz hx.typeIs F.entry_tuple_eq (vG (show A.units+1<cLine by omega) hx hy ⟨_,rfl,(fun e=>nomatch e),ir h⟩) (F.args_tuple_eq_2 _ _)) (by omega))
theorem aEi {ks:List Int}{a:Addr}{m:Nat}{Q:Bool->Shared->Prop}(hk:ja (gq P w) s.heap ks a)(h:Q true s):wpAny (model P w) A (Bg (m+1) (.ref a)) Q E s:=by
 have hT:=hk.typeIs
 obtain ⟨o,items,n,ho,_,hd,hi⟩:=hk
 unfold Bg
 refine aa (mf hT uz.lookup ?_)
 show wpAny _ _ (zc (.ref a) (.type "tuple") >>= _) _ _ s
 refine aa (nh hT so ?_)
 simp only [jf,dm,if_false]
 refine aa (jz ho hd ?_)
 refine aa ?_
 show wpAny _ _ (forIn items _ _) _ _ s
 rw [<- n0]
 refine p0 _ (fun rest r s'=>r.1=none/\s'=s/\∀ v∈rest,carriedByValue v=true) _ ?_ ?_ _ _ ⟨rfl,rfl,hi.byValue⟩
 ·rintro v rest r s' ⟨hr,rfl,hall⟩
  rw [eqIsQuiet_byValue _ (hall v cg)]
  refine aa (ak ?_)
  simp only [jf,dm,if_false]
  exact ak ⟨rfl,rfl,fun u hu'=>hall u (av _ hu')⟩
 ·rintro ⟨r1,r2⟩ s' ⟨hr,rfl,_⟩
  simp only at hr
  subst hr
  exact ak h
theorem aAC {k:List Int × Int}{a:Addr}{Q:Bool->Shared->Prop}(hk:IsPairKey P w s.heap k a)(h:Q true s):wpAny (model P w) A (Bg 8 (.ref a)) Q E s:=by
 have hT:=hk.typeIs
 obtain ⟨o,n,b,t,ho,_,hd,hi⟩:=hk
 unfold Bg
 refine aa (mf hT uz.lookup ?_)
 show wpAny _ _ (zc (.ref a) (.type "tuple") >>= _) _ _ s
 refine aa (nh hT so ?_)
 simp only [jf,dm,if_false]
 refine aa (jz ho hd ?_)
 refine aa ?_
 show wpAny _ _ (forIn #[Value.ref b,Value.int k.2 t] _ _) _ _ s
 rw [<- n0]
 show wpAny _ _ (forIn [Value.ref b,Value.int k.2 t] _ _) _ _ s
 rw [jr]
 refine aa (aa (aEi hi ?_))
 simp only [jf,dm,if_false]
 refine ak ?_
 show wpAny _ _ (forIn [Value.int k.2 t] _ _) _ _ s
 rw [jr,eqIsQuiet_byValue _ (v:=Value.int k.2 t) rfl]
 refine aa (aa (ak ?_))
 simp only [jf,dm,if_false]
 refine ak ?_
 show wpAny _ _ (forIn [] _ _) _ _ s
 rw [nq]
 exact ak (ak h)
def uK (P:Program) (w:World):HeapKind P w (List Int × Int) where
 is:=IsPairKey P w
 hash:=tL P w
 draws:=fun k=>k.1.length+3
 room:=fun A=>A.units+5<cLine
 inj:=fun hx hy=>hx.inj hy
 keeps:=fun x ho hd hs=>x.keeps ho hd hs
 pyHash:=fun hu hk h=>yC hu hk h
 eqBool:=fun hu hx hy h=>xS hu hx hy h
 quiet:=fun hk h=>aAC hk h
end
abbrev PKy:=List Int × Int
abbrev PEs:=List (PKy × Addr × V)
def aIh (k:PKy):Int:=zd (fv [zd (fv (k.1.map hashInt)),hashInt k.2])
abbrev aIU (p:PKy × Addr × V) (q:PKy × Addr × Value):Prop:=p.1=q.1/\p.2.1=q.2.1/\RelV p.2.2 q.2.2
def dpP (a:Addr) (xs:PEs) (ep:Nat) (h:Heap):Prop:=xs.length<=ba/\(a == j5)=false/\∃ ys:List (PKy × Addr × Value),Paired aIU xs ys /\
 ∃ o es,h.get? a=some o/\o.ExactDict/\o.data = .dict es ep/\es.toList=ys.map (fun y=>(⟨aIh y.1, .ref y.2.1,y.2.2⟩:DictEntry))/\(ys.map (·.1)).Nodup
def dpO (a:Addr) (xs:PEs) (ep:Nat):HO := .ext (dpP a xs ep)
def KeyP (H:Hp) (k:PKy) (c:Addr):Prop:=∃ b,H c=some (.tup [.ref b, .int k.2])/\H b=some (.tup (k.1.map V.int))
def DP (H:Hp) (a:Addr) (xs:PEs) (ep:Nat):Prop:=H a=some (dpO a xs ep)/\∀ x∈xs,KeyP H x.1 x.2.1
section
variable {P:Program}{w:World}{H:Hp}{h:Heap}{a c:Addr}{k:PKy}{xs:PEs}
theorem tE:∀ {ns:List Int} {its:List Value},Vals (ns.map V.int) its->ItemsAre (gq P w) ns its
 | [],_, .nil => .nil
 | n :: ns,_, .cons r t=>by
  obtain ⟨tk,rfl⟩:=r
  exact .cons (by show Value.isInt n (.int n tk)=true;unfold Value.isInt;exact beq_self_eq_true _) (tE t)
theorem KeyP.is (ok:HOk P w H h)(e:KeyP H k c):(uK P w).is h k c:=by
 obtain ⟨b,e1,e2⟩:=e
 obtain ⟨_,its,r,o,h1,h2,⟨n,h3⟩,_⟩:=(show ObjOk P w H h c (.tup [.ref b, .int k.2]) from ok c _ e1)
 obtain ⟨_,its',r',o',h1',h2',⟨n',h3'⟩,_⟩:=(show ObjOk P w H h b (.tup (k.1.map V.int)) from ok b _ e2)
 obtain ⟨u,v,rfl,ru,rv⟩:=r.two
 obtain rfl:u=Value.ref b:=ru
 obtain ⟨t,rfl⟩:=rv
 exact ⟨o,n,b,t,h1,h2,h3,o',its'.toArray,n',h1',h2',h3',by simpa using tE r'⟩
theorem DP.of {ep:Nat}(ok:HOk P w H h)(e:DP H a xs ep):xs.length<=ba/\(a == j5)=false/\∃ ys,Paired aIU xs ys/\h.DictOfH (uK P w) a ys:=by
 obtain ⟨z,y,ys,r,o,es,h1,h2,h3,h4,h5⟩:=(show dpP a xs ep h from (ok a _ e.1).1)
 refine ⟨z,y,ys,r,o,es,ep,h1,h2,h3,h4,?_,h5⟩
 have all:∀ {l:PEs} {m:List (PKy × Addr × Value)},Paired aIU l m->(∀ x∈l,KeyP H x.1 x.2.1)->∀ x∈m,(uK P w).is h x.1 x.2.1:=by
  intro l m q
  induction q with
  | nil=>intro _ x hx;exact nomatch hx
  | @cons p q ps qs hq t ih=>
   intro hk x hx
   rcases bj.mp hx with e | hx
   ·subst e
    have:=hk p (cg ..)
    rw [hq.1,hq.2.1] at this
    exact this.is ok
   ·exact ih (fun x hx=>hk x (av _ hx)) x hx
 exact all r e.2
end
def aJE (K:ae) (H:Hp) (k:PKy) (c:Addr):Prop:=∃ b,SqT K H c [.ref b, .int k.2]/\SqT K H b (k.1.map V.int)
theorem KeyP.q {K:ae}{H:Hp}{k:PKy}{c:Addr}(e:KeyP H k c):aJE K H k c:=let ⟨b,h1,h2⟩:=e;⟨b, .of h1, .of h2⟩
section
variable {X:Cx}{o i value:Expr}{pos pos':Pos}{td ty tv:TE}
end
end L2
namespace L2
open PySem PySem.Spec PyProof.Rows
section
variable {prog:Program}{w:World}{A:Around}{E:Value->Shared->Prop}{s:Shared}{d:Addr}{o:Obj}{es:Array DictEntry}{ep:Nat}
end
end L2
namespace L2
open PySem
theorem eZ {H H':Hp}{p:Addr}{o:HO}(h:H p=none)(s:Same H H'):Same H (upd H' p o):=fun b u e=>by rw [aX (aR e h)];exact s _ _ e
section
variable {K:ae}
theorem aHe {H:Hp}{a:Addr}{rs:List V}{T:List (List Int)}(h:SqT K H a rs)(r:Rows K H rs T):Sh K H (lH T) (.ref a):=⟨a,rs,rfl,h,ShL.of_rows r.1 r.2⟩
theorem Sh.rowsT {H:Hp}{v:V}{T:List (List Int)}(h:Sh K H (lH T) v):∃ a rs,v = .ref a/\SqT K H a rs/\Rows K H rs T:=by
 obtain ⟨a,rs,e,ha,hl,hr⟩:=h.tab
 exact ⟨a,rs,e,ha,hl,hr⟩
theorem aBt {σ:St}{H:Hp}{ta ti tv tb tj:TE}{p:Addr}{xs:List V}{i:Nat}{v:V}{Q:VK}(hp:SqT K H p xs)(hi:i<xs.length)(hz:xs.length<=1000)
  (hta:∀ H',Same H H'->∀ R:VK,R (.ref p) H'->ta σ H' R) (hti:∀ H' (R:VK),R (.int (i:Int)) H'->ti σ H' R) (htv:∀ H' (R:VK),R v H'->tv σ H' R) (htb:∀ H',Same H H'->∀ R:VK,R (.ref p) H'->tb σ H' R) (htj:∀ H' (R:VK),R (.int (i:Int)) H'->tj σ H' R)
  (q:∀ r H',Same H H'->SqT K H' r (xs.set i v)->Q (.ref r) H') :
  tOp (bQ K) (tOp (bQ K) (tSl (uX K) ta dF (jC ti)) (gW (aB tv aQ))) (tSl (uX K) tb (jC (tOp (bQ K) tj (tC (.int 1)))) dF) σ H Q:=by
 have hl:∀ {k:Nat},k<=1000->k<=ba:=fun h=>et h (by decide)
 refine hta H (Same.refl _) _ (hti _ _ ⟨_,rfl, .inr ⟨p,xs,rfl,hp,fun p1 H1 s1 h1=>?_⟩⟩)
 rw [aHw (by omega)] at h1
 refine htv _ _ ⟨by show 1<=ba;decide,fun p2 hp2=>?_⟩
 refine .inr ⟨p1,p2,_,_,rfl,rfl,((aJ hp2 _).tup h1), .of aF,?_,fun p3 H3 _ hq3 s3=>?_⟩
 ·rw [e8,jq];exact hl (by omega)
 have s13:=s1.trans ((aJ hp2 (.tup [v])).trans s3)
 refine htb H3 s13 _ (htj _ _ ⟨_,rfl, .inr ⟨p,xs,rfl,s13.tup hp,fun p4 H4 s4 h4=>?_⟩⟩)
 have e1:(i:Int)+1=((i+1:Nat):Int):=by omega
 rw [e1,aDa (by omega)] at h4
 refine .inr ⟨p3,p4,_,_,rfl,rfl,s4.tup hq3,h4,?_,fun p5 H5 _ hq5 s5=>q p5 H5 (s13.trans (s4.trans s5)) ?_⟩
 ·rw [au,e8,jq,il];exact hl (by omega)
 ·rw [List.set_eq_take_append_cons_drop,if_pos hi]
  rw [gg] at hq5
  exact hq5
end
open PySem.SeqAt
section
variable {X:Cx}
end
end L2
namespace L2
open PySem PySem.W PyProof.Rows
section
variable (r:Nat->Int)
def rlt (i j:Nat):Bool:=decide (r i<r j)
def bN {α:Type}:KasT α->α
 | .ret a=>a
 | .ask i j k=>bN (k (rlt r i j))
theorem eY {α β:Type}{f:α->KasT β}:∀ t:KasT α,bN r (t.bind f)=bN r (f (bN r t))
 | .ret _=>rfl
 | .ask i j k=>by
  show bN r ((k (rlt r i j)).bind f)=_
  exact eY (k (rlt r i j))
def Kr (p:Array Nat) (i:Nat):Int:=r (p.getD i 0)
def Srt (p:Array Nat) (n:Nat):Prop:=∀ i j,i<=j->j<n->Kr r p i<=Kr r p j
def Dsc (p:Array Nat) (n:Nat):Prop:=∀ i j,i<=j->j<n->Kr r p j<=Kr r p i
variable {r}
theorem lK {p q:Array Nat}{i j:Nat}(h:p[i]?=q[j]?):Kr r p i=Kr r q j:=by
 unfold Kr
 rw [dh,dh,h]
theorem aCg {p:Array Nat}{a b:Nat}(h:Kr r p a<Kr r p b):rlt r (p.getD a 0) (p.getD b 0)=true:=decide_eq_true h
theorem aAY {p:Array Nat}{a b:Nat}(h:¬ Kr r p a<Kr r p b):¬ rlt r (p.getD a 0) (p.getD b 0)=true:=fun e=>h (of_decide_eq_true e)
theorem aEZ {p:Array Nat}{i j:Nat}(hj:j<=p.size)(k:Nat):Kr r (tm p i j) k=if i<=k/\k<j then Kr r p (i+j - 1 - k) else Kr r p k:=by
 have:=getElem?_mirror_all (i:=i) hj k
 by_cases c:i<=k/\k<j
 ·rw [if_pos c] at this ⊢;exact lK this
 ·rw [if_neg c] at this ⊢;exact lK this
theorem aIK {p:Array Nat}{src d:Nat}(hs:src<p.size)(hd:d<=src)(k:Nat):Kr r (bubble p src d) k=if k=src - d then Kr r p src else if src - d<k/\k<=src then Kr r p (k - 1) else Kr r p k:=by
 have:=getElem?_bubble hs d hd k
 by_cases c:k=src - d
 ·rw [if_pos c] at this ⊢;exact lK this
 ·rw [if_neg c] at this ⊢
  by_cases e:src - d<k/\k<=src
  ·rw [if_pos e] at this ⊢;exact lK this
  ·rw [if_neg e] at this ⊢;exact lK this
theorem fW (p:Array Nat)(i j:Nat):(tm p i j).Perm p:=mirror_perm _ _ _ _
theorem yF {p:Array Nat}:∀ f n,1<=n->Srt r p n->n<=bN r (xm p f n)/\bN r (xm p f n)<=n+f/\Srt r p (bN r (xm p f n))/\(bN r (xm p f n)<n+f->Kr r p (bN r (xm p f n))<Kr r p (bN r (xm p f n) - 1))
 | 0,n,h1,hs=>⟨ay _,ay _,hs,fun h=>absurd h (kn _)⟩
 | f+1,n,h1,hs=>by
  have e:bN r (xm p (f+1) n)=bN r (if rlt r (p.getD n 0) (p.getD (n - 1) 0)=true then .ret n else xm p f (n+1)):=rfl
  rw [e]
  by_cases c:Kr r p n<Kr r p (n - 1)
  ·rw [if_pos (aCg c)]
   exact ⟨ay _,ni _ _,hs,fun _=>c⟩
  ·rw [if_neg (aAY c)]
   obtain ⟨a1,a2,a3,a4⟩:=yF (p:=p) f (n+1) (by omega) fun i j hij hj=>by
    by_cases e1:j=n
    ·subst e1
     by_cases e2:i=j
     ·subst e2;omega
     ·have:=hs i (j - 1) (by omega) (by omega);omega
    ·exact hs i j hij (by omega)
   exact ⟨by omega,by omega,a3,fun h=>a4 (by omega)⟩
theorem uB {p:Array Nat}{i j:Nat}(hj:j<=p.size)(h:∀ k,i<=k->k<j->Kr r p k=Kr r p (j - 1))(k:Nat):Kr r (tm p i j) k=Kr r p k:=by
 rw [aEZ hj]
 split
 ·next c=>rw [h _ (by omega) (by omega),h k c.1 c.2]
 ·rfl
theorem oS:∀ f (p:Array Nat) n q,1<=n->n+f<=p.size->q<n->Dsc r p n->(∀ i,n - (q+1)<=i->i<n->Kr r p i=Kr r p (n - 1))->∀ R,R=bN r (vv f p n q) ->
  R.1.size=p.size/\R.1.Perm p/\n<=R.2.1/\R.2.1<=n+f/\R.2.2<R.2.1/\Dsc r R.1 R.2.1/\∀ i,R.2.1 - (R.2.2+1)<=i->i<R.2.1->Kr r R.1 i=Kr r R.1 (R.2.1 - 1)
 | 0,p,n,q,h1,hz,hq,hd,he,R,hR=>by subst hR;exact ⟨rfl,qr _,ay _,ay _,hq,hd,he⟩
 | f+1,p,n,q,h1,hz,hq,hd,he,R,hR=>by
  have e:bN r (vv (f+1) p n q)=bN r (if rlt r (p.getD n 0) (p.getD (n - 1) 0)=true then (if q > 0 then vv f (tm p (n - (q+1)) n) (n+1) 0 else vv f p (n+1) 0) else .ask (p.getD (n - 1) 0) (p.getD n 0) fun d=>if d=true then .ret (p,n,q) else vv f p (n+1) (q+1)):=rfl
  rw [e] at hR
  by_cases c:Kr r p n<Kr r p (n - 1)
  ·rw [if_pos (aCg c)] at hR
   have hd1:Dsc r p (n+1):=fun i j hij hj=>by
    by_cases e1:j=n
    ·subst e1
     by_cases e2:i=j
     ·subst e2;omega
     ·have:=hd i (j - 1) (by omega) (by omega);omega
    ·exact hd i j hij (by omega)
   by_cases c2:q > 0
   ·rw [if_pos c2] at hR
    have kk:=fun k=>uB (r:=r) (p:=p) (i:=n - (q+1)) (j:=n) (by omega) he k
    have sz:(tm p (n - (q+1)) n).size=p.size:=Ai _ _ _ _
    obtain ⟨a1,a2,a3,a4,a5,a6,a7⟩:=oS f (tm p (n - (q+1)) n) (n+1) 0 (by omega) (by rw [sz];omega) (by omega) (fun i j hij hj=>by rw [kk,kk];exact hd1 i j hij hj) (fun i h2 h3=>by rw [show i=n by omega];rfl) R hR
    exact ⟨a1.trans sz,a2.trans (fW _ _ _),by omega,by omega,a5,a6,a7⟩
   ·rw [if_neg c2] at hR
    obtain ⟨a1,a2,a3,a4,a5,a6,a7⟩:=oS f p (n+1) 0 (by omega) (by omega) (by omega) hd1 (fun i h2 h3=>by rw [show i=n by omega];rfl) R hR
    exact ⟨a1,a2,by omega,by omega,a5,a6,a7⟩
  ·rw [if_neg (aAY c)] at hR
   have e2:bN r (KasT.ask (p.getD (n - 1) 0) (p.getD n 0) fun d=>if d=true then .ret (p,n,q) else vv f p (n+1) (q+1))=bN r (if rlt r (p.getD (n - 1) 0) (p.getD n 0)=true then .ret (p,n,q) else vv f p (n+1) (q+1)):=rfl
   rw [e2] at hR
   by_cases d:Kr r p (n - 1)<Kr r p n
   ·rw [if_pos (aCg d)] at hR
    subst hR
    exact ⟨rfl,qr _,ay _,ni _ _,hq,hd,he⟩
   ·rw [if_neg (aAY d)] at hR
    obtain ⟨a1,a2,a3,a4,a5,a6,a7⟩:=oS f p (n+1) (q+1) (by omega) (by omega) (by omega) (fun i j hij hj=>by
     by_cases e1:j=n
     ·subst e1
      by_cases e2:i=j
      ·subst e2;omega
      ·have:=hd i (j - 1) (by omega) (by omega);omega
     ·exact hd i j hij (by omega)) (fun i h2 h3=>by
     show Kr r p i=Kr r p n
     by_cases e1:i=n
     ·rw [e1]
     ·have:=he i (by omega) (by omega);omega) R hR
    exact ⟨a1,a2,by omega,by omega,a5,a6,a7⟩
def aCT (r:Nat->Int) (nrem n:Nat) (p:Array Nat) (R:Nat × Array Nat):Prop:=R.2.size=p.size/\R.2.Perm p/\n<=R.1/\R.1<=nrem/\Srt r R.2 R.1
theorem wR {n nrem:Nat}{p:Array Nat}(h1:1<=n)(hn:n<=nrem)(hz:nrem<=p.size)(hd:Dsc r p n):aCT r nrem n p (bN r (Bh n nrem p)):=by
 unfold Bh
 rw [eY]
 have hs:Srt r (tm p 0 n) n:=fun i j hij hj=>by
  rw [aEZ (by omega),aEZ (by omega),if_pos ⟨by omega,by omega⟩,if_pos ⟨by omega,hj⟩]
  exact hd _ _ (by omega) (by omega)
 obtain ⟨a1,a2,a3,_⟩:=yF (p:=tm p 0 n) (nrem - n) n h1 hs
 exact ⟨Ai _ _ _ _,fW _ _ _,a1,by show bN r _<=_;omega,a3⟩
theorem nO {n nrem:Nat}{p:Array Nat}(hn:n+1<=nrem)(hz:nrem<=p.size)(hd:Dsc r p (n+1)):aCT r nrem 1 p (bN r (vw n nrem p)):=by
 unfold vw
 rw [eY]
 obtain ⟨a1,a2,a3,a4,a5,a6,a7⟩:=oS (nrem - (n+1)) p (n+1) 0 (by omega) (by omega) (by omega) hd (fun i h2 h3=>by rw [show i=n by omega];rfl) _ rfl
 generalize bN r (vv (nrem - (n+1)) p (n+1) 0)=R at a1 a2 a3 a4 a5 a6 a7 ⊢
 by_cases c:R.2.2 > 0
 ·rw [if_pos c]
  have kk:=fun k=>uB (r:=r) (p:=R.1) (i:=R.2.1 - (R.2.2+1)) (j:=R.2.1) (by omega) a7 k
  have sz:(tm R.1 (R.2.1 - (R.2.2+1)) R.2.1).size=R.1.size:=Ai _ _ _ _
  obtain ⟨b1,b2,b3,b4,b5⟩:=wR (r:=r) (n:=R.2.1) (nrem:=nrem) (p:=tm R.1 (R.2.1 - (R.2.2+1)) R.2.1) (by omega) (by omega) (by rw [sz];omega) fun i j hij hj=>by rw [kk,kk];exact a6 i j hij hj
  exact ⟨b1.trans (sz.trans a1),b2.trans ((fW _ _ _).trans a2),by omega,b4,b5⟩
 ·rw [if_neg c]
  obtain ⟨b1,b2,b3,b4,b5⟩:=wR (r:=r) (n:=R.2.1) (nrem:=nrem) (p:=R.1) (by omega) (by omega) (by omega) a6
  exact ⟨b1.trans a1,b2.trans a2,by omega,b4,b5⟩
theorem aBa {nrem:Nat}{p:Array Nat}(h1:1<=nrem)(hz:nrem<=p.size):aCT r nrem 1 p (bN r (AF nrem p)):=by
 unfold AF
 rw [eY]
 obtain ⟨a1,a2,a3,a4⟩:=yF (r:=r) (p:=p) (nrem - 1) 1 (ay _) fun i j hij hj=>by rw [show i=j by omega];omega
 generalize bN r (xm p (nrem - 1) 1)=n at a1 a2 a3 a4 ⊢
 by_cases c:(n == nrem)=true
 ·rw [if_pos c]
  exact ⟨rfl,qr _,a1,by show n<=nrem;omega,a3⟩
 ·rw [if_neg c]
  have cn:n≠nrem:=fun e=>c (by rw [e];exact beq_self_eq_true _)
  have lt:=a4 (by omega)
  by_cases d:n > 1
  ·rw [if_pos d]
   show aCT r nrem 1 p (bN r (if rlt r (p.getD 0 0) (p.getD (n - 1) 0)=true then .ret (n,p) else vw n nrem (tm p 0 n)))
   by_cases e:Kr r p 0<Kr r p (n - 1)
   ·rw [if_pos (aCg e)]
    exact ⟨rfl,qr _,a1,by show n<=nrem;omega,a3⟩
   ·rw [if_neg (aAY e)]
    have eq:∀ k,0<=k->k<n->Kr r p k=Kr r p (n - 1):=fun k _ hk=>by
     have g1:=a3 0 k (by omega) hk
     have g2:=a3 k (n - 1) (by omega) (by omega)
     omega
    have kk:=fun k=>uB (r:=r) (p:=p) (i:=0) (j:=n) (by omega) eq k
    have sz:(tm p 0 n).size=p.size:=Ai _ _ _ _
    obtain ⟨b1,b2,b3,b4,b5⟩:=nO (r:=r) (n:=n) (nrem:=nrem) (p:=tm p 0 n) (by omega) (by rw [sz];omega) fun i j hij hj=>by
     rw [kk,kk]
     by_cases e1:j=n
     ·subst e1
      by_cases e2:i=j
      ·subst e2;omega
      ·have:=eq i (by omega) (by omega);omega
     ·have g1:=eq i (by omega) (by omega)
      have g2:=eq j (by omega) (by omega)
      omega
    exact ⟨b1.trans sz,b2.trans (fW _ _ _),b3,b4,b5⟩
  ·rw [if_neg d]
   refine nO (by omega) hz fun i j hij hj=>?_
   have:n=1:=by omega
   subst this
   by_cases e2:i=j
   ·subst e2;omega
   ·rw [show i=0 by omega,show j=1 by omega]
    exact Int.le_of_lt lt
theorem qJ {p:Array Nat}{k:Nat}(hs:Srt r p k):∀ f l q,l<=q->q<=k->q - l<=f->(∀ i,i<l->Kr r p i<=Kr r p k)->(∀ i,q<=i->i<k->Kr r p k<Kr r p i) ->
  ∀ m,m=bN r (pw p k f l q)->m<=k/\(∀ i,i<m->Kr r p i<=Kr r p k)/\∀ i,m<=i->i<k->Kr r p k<Kr r p i
 | 0,l,q,h1,h2,h3,ha,hb,m,hm=>by
  obtain rfl:m=l:=hm
  exact ⟨by omega,ha,fun i hi hk=>hb i (by omega) hk⟩
 | f+1,l,q,h1,h2,h3,ha,hb,m,hm=>by
  have e:bN r (pw p k (f+1) l q)=bN r (if l≥q then .ret l else .ask (p.getD k 0) (p.getD ((l+q) / 2) 0) fun c=>if c=true then pw p k f l ((l+q) / 2) else pw p k f ((l+q) / 2+1) q):=rfl
  rw [e] at hm
  by_cases c:l≥q
  ·rw [if_pos c] at hm
   obtain rfl:m=l:=hm
   exact ⟨by omega,ha,fun i hi hk=>hb i (by omega) hk⟩
  ·rw [if_neg c] at hm
   have e2:bN r (KasT.ask (p.getD k 0) (p.getD ((l+q) / 2) 0) fun c=>if c=true then pw p k f l ((l+q) / 2) else pw p k f ((l+q) / 2+1) q)=bN r (if rlt r (p.getD k 0) (p.getD ((l+q) / 2) 0)=true then pw p k f l ((l+q) / 2) else pw p k f ((l+q) / 2+1) q):=rfl
   rw [e2] at hm
   by_cases d:Kr r p k<Kr r p ((l+q) / 2)
   ·rw [if_pos (aCg d)] at hm
    exact qJ hs f l ((l+q) / 2) (by omega) (by omega) (by omega) ha (fun i hi hk=>by have:=hs ((l+q) / 2) i hi hk;omega) m hm
   ·rw [if_neg (aAY d)] at hm
    exact qJ hs f ((l+q) / 2+1) q (by omega) h2 (by omega) (fun i hi=>by have:=hs i ((l+q) / 2) (by omega) (by omega);omega) hb m hm
theorem aCf:∀ f (p:Array Nat) k,k+f<=p.size->Srt r p k->(bN r (Bi f p k)).Perm p/\(bN r (Bi f p k)).size=p.size/\Srt r (bN r (Bi f p k)) (k+f)
 | 0,p,k,hz,hs=>⟨qr _,rfl,hs⟩
 | f+1,p,k,hz,hs=>by
  have e:bN r (Bi (f+1) p k)=bN r (Bi f (bubble p k (k - bN r (pw p k k 0 k))) (k+1)):=eY (r:=r) _
  rw [e]
  obtain ⟨a1,a2,a3⟩:=qJ hs k 0 k (by omega) (by omega) (by omega) (fun i hi=>by omega) (fun i h1 h2=>by omega) _ rfl
  generalize bN r (pw p k k 0 k)=l at a1 a2 a3 ⊢
  have sz:(bubble p k (k - l)).size=p.size:=bubble_size _ _ _
  have kb:=fun i=>aIK (r:=r) (p:=p) (src:=k) (d:=k - l) (by omega) (by omega) i
  obtain ⟨b1,b2,b3⟩:=aCf f (bubble p k (k - l)) (k+1) (by rw [sz];omega) fun i j hij hj=>by
   rw [kb,kb]
   have g1:∀ i,i<l->Kr r p i<=Kr r p k:=a2
   have g2:∀ i,l<=i->i<k->Kr r p k<Kr r p i:=a3
   by_cases i1:i=k - (k - l) <;> by_cases j1:j=k - (k - l)
   ·rw [if_pos i1,if_pos j1];omega
   ·rw [if_pos i1,if_neg j1,if_pos ⟨by omega,by omega⟩]
    exact Int.le_of_lt (g2 _ (by omega) (by omega))
   ·rw [if_neg i1,if_pos j1,if_neg (by omega)]
    exact g1 i (by omega)
   ·rw [if_neg i1,if_neg j1]
    by_cases i2:k - (k - l)<i/\i<=k
    ·rw [if_pos i2,if_pos ⟨by omega,by omega⟩]
     exact hs _ _ (by omega) (by omega)
    ·rw [if_neg i2]
     by_cases j2:k - (k - l)<j/\j<=k
     ·rw [if_pos j2]
      exact hs _ _ (by omega) (by omega)
     ·rw [if_neg j2]
      exact hs _ _ hij (by omega)
  exact ⟨b1.trans (bubble_perm _ _ _),b2.trans sz,by rw [show k+(f+1)=k+1+f by omega];exact b3⟩
theorem aDj {n:Nat}(h1:1<=n):(bN r (qt n)).Perm (j4 (ar n))/\(bN r (qt n)).size=n/\Srt r (bN r (qt n)) n:=by
 unfold qt
 rw [eY]
 have hz:(j4 (ar n)).size=n:=by simp
 obtain ⟨a1,a2,a3,a4,a5⟩:=aBa (r:=r) (nrem:=n) (p:=j4 (ar n)) h1 (by omega)
 generalize bN r (AF n (j4 (ar n)))=R at a1 a2 a3 a4 a5 ⊢
 by_cases c:R.1<n
 ·rw [if_pos c]
  obtain ⟨b1,b2,b3⟩:=aCf (r:=r) (n - max R.1 1) R.2 (max R.1 1) (by omega) (by rw [show max R.1 1=R.1 by omega];exact a5)
  exact ⟨b1.trans a2,by omega,by rw [show max R.1 1+(n - max R.1 1)=n by omega] at b3;exact b3⟩
 ·rw [if_neg c]
  exact ⟨a2,by show R.2.size=n;omega,by rw [show R.1=n by omega] at a5;exact a5⟩
end
section
variable {N:Nat}
def Bnd (N:Nat) (p:Array Nat):Prop:=∀ k,p.getD k 0<N
theorem Bnd.perm {p q:Array Nat}(hN:0<N)(h:Bnd N p)(e:q.Perm p):Bnd N q:=fun k=>by
 rw [dh]
 by_cases c:k<q.size
 ·rw [d9 c]
  have hm:q[k]∈p:=e.mem_iff.mp (Array.getElem_mem c)
  obtain ⟨i,hi,e2⟩:=Array.getElem_of_mem hm
  have:=h i
  rw [dh,d9 hi] at this
  show q[k]<N
  rw [<- e2]
  exact this
 ·rw [jb (by omega)]
  exact hN
def AskP (N:Nat) {α:Type} (P:α->Prop):KasT α->Prop
 | .ret a=>P a
 | .ask i j k=>i<N/\j<N/\∀ b,AskP N P (k b)
theorem AskP.bind {α β:Type}{f:α->KasT β}{P:α->Prop}{Q:β->Prop}(hf:∀ a,P a->AskP N Q (f a)):∀ t:KasT α,AskP N P t->AskP N Q (t.bind f)
 | .ret a,h=>hf a h
 | .ask i j k,h=>⟨h.1,h.2.1,fun b=>AskP.bind hf (k b) (h.2.2 b)⟩
theorem AskP.ite {α:Type}{P:α->Prop}{c:Prop}[Decidable c]{t u:KasT α}(h1:c->AskP N P t)(h2:¬ c->AskP N P u):AskP N P (if c then t else u):=by
 by_cases h:c
 ·rw [if_pos h];exact h1 h
 ·rw [if_neg h];exact h2 h
theorem xZ {p:Array Nat}(hb:Bnd N p):∀ f n,AskP N (fun _=>True) (xm p f n)
 | 0,n=>trivial
 | f+1,n=>⟨hb _,hb _,fun b=>AskP.ite (fun _=>trivial) fun _=>xZ hb f (n+1)⟩
theorem oY (hN:0<N):∀ f (p:Array Nat) n q,Bnd N p->AskP N (fun R=>Bnd N R.1) (vv f p n q)
 | 0,p,n,q,hb=>hb
 | f+1,p,n,q,hb=>⟨hb _,hb _,fun b=>AskP.ite (fun _=>AskP.ite (fun _=>oY hN f _ _ _ (hb.perm hN (fW _ _ _))) fun _=>oY hN f _ _ _ hb) fun _=>⟨hb _,hb _,fun d=>AskP.ite (fun _=>hb) fun _=>oY hN f _ _ _ hb⟩⟩
theorem vP (hN:0<N){n nrem:Nat}{p:Array Nat}(hb:Bnd N p):AskP N (fun R:Nat × Array Nat=>Bnd N R.2) (Bh n nrem p):=by
 unfold Bh
 refine AskP.bind (P:=fun _=>True) (fun a _=>?_) _ (xZ (hb.perm hN (fW _ _ _)) _ _)
 exact hb.perm hN (fW _ _ _)
theorem nQ (hN:0<N){n nrem:Nat}{p:Array Nat}(hb:Bnd N p):AskP N (fun R:Nat × Array Nat=>Bnd N R.2) (vw n nrem p):=by
 unfold vw
 refine AskP.bind (fun R hR=>?_) _ (oY hN _ _ _ _ hb)
 exact AskP.ite (fun _=>vP hN (Bnd.perm hN hR (fW _ _ _))) fun _=>vP hN hR
theorem aBv (hN:0<N){nrem:Nat}{p:Array Nat}(hb:Bnd N p):AskP N (fun R:Nat × Array Nat=>Bnd N R.2) (AF nrem p):=by
 unfold AF
 refine AskP.bind (P:=fun _=>True) (fun n _=>?_) _ (xZ hb _ _)
 refine AskP.ite (fun _=>?_) fun _=>AskP.ite (fun _=>⟨hb _,hb _,fun c=>AskP.ite (fun _=>?_) fun _=>nQ hN (hb.perm hN (fW _ _ _))⟩) fun _=>nQ hN hb
 ·exact hb
 ·exact hb
theorem qG {p:Array Nat}{k:Nat}(hb:Bnd N p):∀ f l q,AskP N (fun _=>True) (pw p k f l q)
 | 0,l,q=>trivial
 | f+1,l,q=>AskP.ite (fun _=>trivial) fun _=>⟨hb _,hb _,fun c=>AskP.ite (fun _=>qG hb f _ _) fun _=>qG hb f _ _⟩
theorem aCM (hN:0<N):∀ f (p:Array Nat) k,Bnd N p->AskP N (fun _=>True) (Bi f p k)
 | 0,p,k,hb=>trivial
 | f+1,p,k,hb=>AskP.bind (fun l _=>aCM hN f _ _ (hb.perm hN (bubble_perm _ _ _))) _ (qG hb _ _ _)
theorem aDS (hN:0<N):AskP N (fun _=>True) (qt N):=by
 have hb:Bnd N (j4 (ar N)):=fun k=>by
  rw [dh]
  by_cases c:k<N
  ·simp [c]
  ·simp [c,hN]
 unfold qt
 refine AskP.bind (fun R hR=>?_) _ (aBv hN hb)
 refine AskP.ite (fun _=>aCM hN _ _ _ hR) fun _=>?_
 exact trivial
theorem aEE {r:Nat->Int}{cmp:Nat->Nat->(Bool->Shared->Prop)->Shared->Prop}{s:Shared}(hc:∀ i j C,i<N->j<N->C (rlt r i j) s->cmp i j C s){α:Type}{P:α->Prop}{Q:α->Shared->Prop}:∀ t:KasT α,AskP N P t->Q (bN r t) s->t.kasWp cmp Q s
 | .ret a,_,h=>h
 | .ask i j k,ha,h=>hc i j _ ha.1 ha.2.1 (aEE hc (k (rlt r i j)) (ha.2.2 _) h)
end
theorem pH:∀ {a b:List Int},fO a b=false->fO b a=false->a=b
 | [],[],_,_=>rfl
 | [],_ :: _,h,_=>by cases h
 | _ :: _,[],_,h=>by cases h
 | x :: a,y :: b,h1,h2=>by
  rw [fO] at h1 h2
  by_cases e:x=y
  ·subst e
   rw [if_pos rfl] at h1 h2
   rw [pH h1 h2]
  ·rw [if_neg e] at h1
   rw [if_neg (jk e)] at h2
   have g1:=of_decide_eq_false h1
   have g2:=of_decide_eq_false h2
   omega
def aAI (R:List (List Int)) (i:Nat):Int:=((R.countP fun q=>fO q (R.getD i [])):Nat)
theorem vO {p q:List Int->Bool}:∀ {l:List (List Int)},(∀ x∈l,p x=true->q x=true)->(∃ x∈l,p x=false/\q x=true)->l.countP p<l.countP q
 | [],_,⟨_,h,_⟩=>by cases h
 | a :: l,h,⟨x,hx,h1,h2⟩=>by
  have mono:l.countP p<=l.countP q:=yt fun x hx=>h x (av _ hx)
  rw [nj,nj]
  rcases bj.mp hx with e | hx
  ·subst e
   rw [h1,h2]
   simp
   omega
  ·have ih:=vO (fun x hx=>h x (av _ hx)) ⟨x,hx,h1,h2⟩
   have ha:=h a (cg ..)
   cases e1:p a with
   | false=>simp;split <;> omega
   | true=>rw [ha e1];simp;omega
theorem yH {R:List (List Int)}{i j:Nat}(hi:i<R.length)(hj:j<R.length):(aAI R i<aAI R j)↔fO (R.getD i []) (R.getD j [])=true:=by
 have mem:∀ k,k<R.length->R.getD k []∈R:=fun k hk=>by
  rw [aj,ah hk];exact fb hk
 unfold aAI
 constructor
 ·intro h
  cases e:fO (R.getD i []) (R.getD j []) with
  | true=>rfl
  | false=>
   exfalso
   have:R.countP (fun q=>fO q (R.getD j []))<=R.countP (fun q=>fO q (R.getD i [])):=yt fun x _ hx=>by
    cases e2:fO (R.getD j []) (R.getD i []) with
    | true=>exact kB hx e2
    | false=>rw [pH e e2];exact hx
   omega
 ·intro h
  have:=vO (l:=R) (p:=fun q=>fO q (R.getD i [])) (q:=fun q=>fO q (R.getD j [])) (fun x _ hx=>kB hx h) ⟨_,mem i hi,pB _,h⟩
  omega
def TupsAt (h:Heap) (vs:List Value) (R:List (List Int)):Prop:=vs.length=R.length/\∀ (i:Nat) (row:List Int),R[i]?=some row->∃ x us,vs[i]?=some (.ref x)/\IsTup h x us.toArray/\IntsAre us row
section
variable {prog:Program}{w:World}{A:Around}{E:Value->Shared->Prop}{s:Shared}
theorem aEJ {fin:Bool}{Q:Bool->Shared->Prop}:∀ {us vs:List Value} {ns ms:List Int} (i:Nat),IntsAre us ns->IntsAre vs ms->Q (zF fin (ns.zip ms)) s->KatLex prog w A true fin Q (us.zip vs) i s
 | [],_,_,_,i, .nil,_,h=>by rw [List.zip_nil_left];exact kat_nil (by simpa [zF] using h)
 | _ :: _,[],_,_,i, .cons _ _ _, .nil,h=>by rw [List.zip_nil_right];exact kat_nil (by simpa [zF] using h)
 | _ :: us,_ :: vs,_ :: ns,_ :: ms,i, .cons n t h1, .cons m u h2,h=>by
  rw [vp,zF] at h
  rw [vp]
  refine kat_cons (SeqAt.EqAt.int_int n t m u prog w _ _ ?_)
  by_cases c:n=m
  ·rw [if_pos c] at h
   rw [show (n == m)=true from by rw [c];exact beq_self_eq_true _]
   exact kat_yes (aEJ (i+1) h1 h2 h)
  ·rw [if_neg c] at h
   rw [show (n == m)=false from beq_false_of_ne c]
   refine kat_no ?_
   by_cases z:i=0
   ·subst z
    exact oneLt_int h
   ·rw [show (true && i == 0)=false by simp [z]]
    exact kat_one _ _ (vY h)
theorem aEX {vs:List Value}{R:List (List Int)}(hv:TupsAt s.heap vs R){i j:Nat}{C:Bool->Shared->Prop}(hi:i<R.length)(hj:j<R.length)(h:C (rlt (aAI R) i j) s):kas_ask prog w A (tuples' true) vs i j C s:=by
 have at':∀ k,k<R.length->∃ x us,vs.getD k Value.none = .ref x/\IsTup s.heap x us.toArray/\IntsAre us (R.getD k []):=fun k hk=>by
  obtain ⟨x,us,e1,e2,e3⟩:=hv.2 k R[k] (ah hk)
  refine ⟨x,us,by rw [aj,e1];rfl,e2,?_⟩
  rw [aj,ah hk]
  exact e3
 obtain ⟨x,us,e1,⟨ox,a1,_,n1,d1⟩,b1⟩:=at' i hi
 obtain ⟨y,vs',e2,⟨oy,a2,_,n2,d2⟩,b2⟩:=at' j hj
 show wpAny (model prog w) A (keyLt' (tuples' true) (vs.getD i Value.none) (vs.getD j Value.none)) C (fun _ _=>False) s
 rw [e1,e2]
 refine kat_lt a1 d1 a2 d2 ?_
 have hl1:us.length=(R.getD i []).length:=IntsAre.len b1
 have hl2:vs'.length=(R.getD j []).length:=IntsAre.len b2
 have e:rlt (aAI R) i j=zF (decide (us.toArray.size<vs'.toArray.size)) ((R.getD i []).zip (R.getD j [])):=by
  rw [aq,aq,hl1,hl2,yN]
  unfold rlt
  by_cases c:fO (R.getD i []) (R.getD j [])=true
  ·rw [c];exact decide_eq_true ((yH hi hj).mpr c)
  ·rw [p6 _ |>.mp c];exact decide_eq_false fun z=>c ((yH hi hj).mp z)
 exact aEJ 0 b1 b2 (by rw [<- e];exact h)
theorem lZ {h:Heap}:∀ {vs:List Value} {R:List (List Int)},TupsAt h vs R->(∀ q∈R,q≠[])->∃ fs,KatTups h vs fs/\fs.length=R.length/\∀ v∈fs,∃ i t,v = .int i t
 | [],[],_,_=>⟨[],trivial,rfl,fun _ z=>by cases z⟩
 | [],_ :: _,hv,_=>by cases hv.1
 | _ :: _,[],hv,_=>by cases hv.1
 | v :: vs,q :: R,hv,hne=>by
  obtain ⟨x,us,e1,⟨o,a1,a2,n,a3⟩,b⟩:=hv.2 0 q rfl
  obtain ⟨fs,k,l,f⟩:=lZ (vs:=vs) (R:=R) ⟨by simpa using hv.1,fun i row hr=>hv.2 (i+1) row hr⟩ fun q hq=>hne q (av _ hq)
  obtain rfl:v = .ref x:=by simpa using e1
  cases b with
  | nil=>exact absurd rfl (hne [] (cg ..))
  | cons m t r=>
   exact ⟨.int m t :: fs,⟨⟨x,o,_,n,rfl,a1,a2,a3,rfl⟩,k⟩,by simp [l],fun v hv'=>by
    rcases bj.mp hv' with e | hv'
    ·exact ⟨m,t,e⟩
    ·exact f v hv'⟩
theorem TupsAt.keep {h h':Heap}{vs:List Value}{R:List (List Int)}(hv:TupsAt h vs R)(k:∀ x us,IsTup h x us->IsTup h' x us):TupsAt h' vs R:=
 ⟨hv.1,fun i row hr=>by obtain ⟨x,us,e1,e2,e3⟩:=hv.2 i row hr;exact ⟨x,us,e1,k _ _ e2,e3⟩⟩
def Put (R:List (List Int)) (p:Array Nat):Prop:=p.Perm (j4 (ar R.length))/\∀ i j,i<=j->j<R.length->fO (R.getD (p.getD j 0) []) (R.getD (p.getD i 0) [])=false
theorem lY {a:Addr}{vs:List Value}{n:Nat}{R:List (List Int)}{P:Fin->Shared->Prop}(ho:s.heap.get? a=some (kd "list" vs.toArray n))(hv:TupsAt s.heap vs R)(hne:∀ q∈R,q≠[])(h64:vs.length<64)
  (h:∀ p,Put R p->P (.done (.ret .none)) { s with heap:=sortedHeap s.heap a vs (j4 (p.toList.map fun i=>vs.getD i Value.none)) }):wpAny (model prog w) A (Builtin.«list.sort» ⟨[.ref a],[]⟩) P E s:=by
 have ha:=br ho
 have hz:vs.length<=ba:=by rw [j9];omega
 obtain ⟨e1,ho1⟩:∃ e1,(s.heap.update a (ji fun _=>#[])).get? a=some (kd "list" #[] e1):=⟨_,get?_update_seq ho fun _=>#[]⟩
 rw [list_sort_plain]
 refine aa (AW ho rfl (aa (AA ho rfl ?g1 (by rw [aq];exact hz) (bh _))))
 case g1=>
 refine aa (seqEpoch_at ho1 rfl (aa (wpAny_newTuple ?g2 (by show vs.length<=_;exact hz))))
 case g2=>
 refine aa (ug (fj ?g3) (bh _))
 case g3=>
 obtain ⟨h3,eh⟩:∃ h3,h3=((s.heap.update a (ji fun _=>(#[]:Array Value))).push (kd "tuple" vs.toArray 0)).push (kd "list" #[] 0):=⟨_,rfl⟩
 show wpAny (model prog w) A _ P E { s with heap:=((s.heap.update a (ji fun _=>#[])).push (kd "tuple" vs.toArray 0)).push (kd "list" #[] 0) }
 rw [<- eh]
 have ho3:h3.get? a=some (kd "list" #[] e1):=by
  rw [eh]
  exact ao _ (ao _ ho1)
 have hv3:TupsAt h3 vs R:=hv.keep fun x us ⟨o,b1,b2,b3⟩=>by
  have hx:x≠a:=fun e=>by
   subst e
   rw [ho] at b1
   cases b1
   exact absurd (Value.type.inj (show Value.type "list" = Value.type "tuple" from b2)) (by decide)
  refine ⟨o,?_,b2,b3⟩
  rw [eh]
  exact ao _ (ao _ (by rw [Aj _ _ _ _ hx];exact b1))
 dsimp only
 have fin:∀ (p:Array Nat) (st':yu),Put R p->p.size=vs.length->arrOf st'=p.map (kas_item (vs.toArray.zip vs.toArray))->AG st'=none->wpAny (model prog w) A (do
   let touched:=(<- seqEpoch a) != e1
   Builtin.List.listUpdate (.ref a) fun _=>(arrOf st').map (·.2)
   if let some e:=AG st' then rule "list.sort.comparison-raised";throw e
   if touched then rule "list.sort.modified";raiseError "ValueError" "list modified during sort"
   ret .none) P E { s with heap:=h3 }:=fun p st' hp hsz har hf=>by
  rw [kat_snds rfl har,hf]
  refine aa (seqEpoch_at ho3 rfl (aa (AA ho3 rfl ?g4 (bh _) ?g5)))
  case g5=>
   show (j4 _).size<=_
   rw [aq,af,fc];omega
  case g4=>
   simp only [bne_self_eq_false,dm,if_false]
   have:=h p hp
   unfold sortedHeap at this
   rw [<- eh] at this
   exact ak this
 by_cases c:vs.toArray.size<2
 ·rw [if_pos c,if_pos c]
  refine aa (ak ?g6)
  case g6=>
  rw [StateT.run_pure]
  refine aa (ak ?g7)
  case g7=>
  have e2:(vs.toArray.zip vs.toArray).size=vs.length:=by simp
  refine fin (j4 (ar vs.length)) (SortSt.mk' general' (vs.toArray.zip vs.toArray) #[] 7 none) ⟨by rw [hv.1],fun i j hij hj=>?_⟩ (by simp) ?_ rfl
  ·have hl:R.length<2:=by rw [<- hv.1];simpa using c
   rw [show i=j by omega]
   exact pB _
  ·have:=kas_range (vs.toArray.zip vs.toArray)
   rw [e2] at this
   exact this.symm
 ·rw [if_neg c,if_neg c]
  have h2:2<=vs.length:=by simpa using c
  obtain ⟨fs,k1,k2,k3⟩:=lZ hv3 hne
  refine aa (kat_kind (s:={ s with heap:=h3 }) (T := .type "int") k1 (by have:=hv.1;omega) (fun v hv'=>?g8) (by decide) ?g9)
  case g8=>
   obtain ⟨i,t,rfl⟩:=k3 v hv'
   exact Looks.of_pure rfl
  case g9=>
  obtain ⟨q1,q2,q3⟩:=aDj (r:=aAI R) (n:=vs.length) (by omega)
  refine aa (iq (kat_run (ks:=vs) (vs:=vs) (s:={ s with heap:=h3 }) (κ:=tuples' true) (Q:=fun st' s'=>s'={ s with heap:=h3 }/\arrOf st'=(bN (aAI R) (qt vs.length)).map (kas_item (vs.toArray.zip vs.toArray))/\AG st'=none) (G:=fun p' s'=>p'=bN (aAI R) (qt vs.length)/\s'={ s with heap:=h3 }) rfl h2 h64 (fun p' st' s' a1 a2 a3 a4=>⟨a4.2,by rw [<- a4.1];exact a2,a3⟩)
   (aEE (N:=vs.length) (r:=aAI R) (fun i j C hi hj hC=>aEX (s:={ s with heap:=h3 }) hv3 (by rw [<- hv.1];exact hi) (by rw [<- hv.1];exact hj) hC) _ (aDS (by omega)) ⟨rfl,rfl⟩)) ?_ fun _ _ e=>e)
  rintro ⟨⟨⟩,st'⟩ s' ⟨rfl,har,hf⟩
  refine fin _ st' ⟨by rw [<- hv.1];exact q1,fun i j hij hj=>?_⟩ q2 har hf
  have hle:=q3 i j hij (by rw [hv.1];exact hj)
  have bd:∀ k,k<vs.length->(bN (aAI R) (qt vs.length)).getD k 0<R.length:=fun k hk=>by
   rw [dh,d9 (by omega)]
   have:=q1.mem_iff.mp (Array.getElem_mem (show k<(bN (aAI R) (qt vs.length)).size by omega))
   rw [<- hv.1]
   simpa using this
  have hlt:=yH (R:=R) (bd j (by rw [hv.1];exact hj)) (bd i (by rw [hv.1];omega))
  cases z:fO (R.getD ((bN (aAI R) (qt vs.length)).getD j 0) []) (R.getD ((bN (aAI R) (qt vs.length)).getD i 0) []) with
  | false=>rfl
  | true=>
   have:=hlt.mpr z
   unfold Kr at hle
   omega
end
section
variable {prog:Program}{w:World}{A:Around}{E:Value->Shared->Prop}{s:Shared}
theorem aAF {l:Addr}{ob:Obj}{n:Nat}{T:String}{us:List Value}{R:List (List Int)}{Q:Value->Shared->Prop}(e0:s.heap.get? l=some ob)(ec:ob.cls = .type T)(eT:T="list"\/T="tuple")(ed:ob.data = .seq us.toArray n)(hv:TupsAt s.heap us R)(hne:∀ q∈R,q≠[])(h64:us.length<64)
  (q:∀ p,Put R p->Q (.ref (s.heap.objs.size+1)) { s with heap:=sortedAll s.heap us (j4 (p.toList.map fun i=>us.getD i Value.none)) }):wpAny (model prog w) A (call (.builtin "sorted") [.ref l]) Q E s:=by
 refine ph Be AX AY (AZ _) ?g1
 case g1=>
 unfold xu
 refine aa (m:=checkCount "sorted" 1 1 _) (ak (aa (sN e0 ec eT ed (aa (ug ?g2)) (et (mi h64) (by decide)))))
 case g2=>
 obtain ⟨h1,eh1⟩:∃ h1,h1=(s.heap.push (kd "list" #[] 0)).update s.heap.objs.size (ji (· ++ us.toArray)):=⟨_,rfl⟩
 have z1:h1.objs.size=s.heap.objs.size+1:=by rw [eh1,Heap.size_update,size_push']
 have old:∀ x o,s.heap.get? x=some o->(h1.push (kd "list" us.toArray 0)).get? x=some o:=fun x o e=>by
  have hx:=br e
  refine ao _ ?_
  rw [eh1,Aj _ _ _ _ (d0 hx)]
  exact ao _ e
 have e2:(h1.push (kd "list" us.toArray 0)).get? (s.heap.objs.size+1)=some (kd "list" us.toArray 0):=by rw [<- z1];exact bp _ rfl
 have hv2:TupsAt (h1.push (kd "list" us.toArray 0)) us R:=hv.keep fun x vs ⟨o,b1,b2,b3⟩=>⟨o,old x o b1,b2,b3⟩
 show wpAny _ _ _ _ _ { s with heap:=((s.heap.push (kd "list" #[] 0)).update s.heap.objs.size (ji (· ++ us.toArray))).push (kd "list" us.toArray 0) }
 rw [<- eh1,z1]
 refine aa (fj (fw zx ⟨_,e2,rfl⟩ ym (lY (s:={ s with heap:=h1.push (kd "list" us.toArray 0) }) e2 hv2 hne h64 fun p hp=>⟨_,rfl,ak ⟨_,rfl,?g3⟩⟩) (zy _)))
 case g3=>
  have:=q p hp
  unfold sortedAll at this
  rw [<- eh1] at this
  exact this
end
theorem zW {R:List (List Int)}{p:Array Nat}(h:Put R p):(p.toList.map fun i=>R.getD i []).Perm R/\(p.toList.map fun i=>R.getD i []).Pairwise (fun a b=>fO b a=false):=by
 have pl:p.toList.Perm (ar R.length):=by simpa using o9.mp h.1
 have e:(ar R.length).map (fun i=>R.getD i [])=R:=by
  apply tu
  ·simp
  ·intro i h1 h2
   rw [p8,vx,aj,ah h2];rfl
 have hl:p.size=R.length:=by rw [<- fc,pl.length_eq,cm]
 refine ⟨by have:=pl.map fun i=>R.getD i [];rw [e] at this;exact this,?_⟩
 rw [pz]
 intro i j hi hj hij
 rw [af,fc] at hi hj
 have:=h.2 i j (by omega) (by omega)
 rw [dh,d9 hj,dh,d9 hi] at this
 rw [p8,p8,zj,zj]
 exact this
def aCj (K:ae):List V->Hp->VK->Prop:=fun vs H Q=>∃ (a:Addr) (xs:List V) (R:List (List Int)),vs=[.ref a]/\Sq K H a xs/\Rows K H xs R/\(∀ q∈R,q≠[])/\R.length<64 /\
 ∀ (ys:List V) (R':List (List Int)),R'.Perm R->R'.Pairwise (fun a b=>fO b a=false)->ys.Perm xs->Rows K H ys R'->∀ l,H l=none->Q (.ref l) (upd H l (.lst ys))
theorem aAA {X:Cx}:CallR X (.builtin "sorted") (aCj X.K):=by
 intro pins s σ H vs us Q I r ⟨a,xs,R,e,hq,hR,hne,h64,q⟩
 subst e
 obtain ⟨u,rfl,ru⟩:=rN r
 obtain rfl:u=Value.ref a:=ru
 have go:∀ (its:List Value) (ob:Obj) (n:Nat) (T:String),Vals xs its->s.heap.get? a=some ob->ob.cls = .type T->(T="list"\/T="tuple")->ob.data = .seq its.toArray n->wpAny (model X.prog X.w) X.A (call (.builtin "sorted") [.ref a]) (EP X pins σ Q) X.xe s:=by
  intro its ob n T rv e0 ec eT ed
  have hl:=rv.length
  have hv:TupsAt s.heap its R:=⟨by rw [<- hl];exact hR.1,fun i row hr=>by
   obtain ⟨b,e1,e2⟩:=hR.2 i row hr
   obtain ⟨u,eu,rU⟩:=rv.get e1
   obtain rfl:u=Value.ref b:=rU
   obtain ⟨vs,rvs,pl,_⟩:=I.tuple e2
   exact ⟨b,vs,eu,pl,gA rvs⟩⟩
  refine aAF e0 ec eT ed hv hne (by rw [<- hl,hR.1];exact h64) fun p hp=>?_
  obtain ⟨f1,f2⟩:=zW hp
  have pl:p.toList.Perm (ar R.length):=by simpa using o9.mp hp.1
  have hb:∀ i∈p.toList,i<R.length:=fun i hi=>cp.mp (pl.mem_iff.mp hi)
  obtain ⟨c,he⟩:=sortedAll_at s.heap its (j4 (p.toList.map fun i=>its.getD i Value.none))
  have ex:(ar R.length).map (fun i=>xs.getD i V.non)=xs:=by
   apply tu
   ·simp [hR.1]
   ·intro i h1 h2
    rw [p8,vx,aj,ah h2];rfl
  have py:(p.toList.map fun i=>xs.getD i V.non).Perm xs:=by have:=pl.map fun i=>xs.getD i V.non;rw [ex] at this;exact this
  refine ⟨.ref (s.heap.objs.size+1),_,I.laid (t':=s.toks) (o := .lst (p.toList.map fun i=>xs.getD i V.non)) (fun b ob q=>sortedAll_old q) (xg _) ?_,rfl,q _ _ f1 f2 py ?_ _ (I.hok.fresh (xg _))⟩
  ·refine ⟨?_,p.toList.map fun i=>its.getD i Value.none,c,?_,by simpa using he⟩
   ·rw [af,pl.length_eq,cm]
    exact et (mi h64) (by decide)
   ·have all:∀ l:List Nat,(∀ i∈l,i<R.length)->Vals (l.map fun i=>xs.getD i V.non) (l.map fun i=>its.getD i Value.none):=by
     intro l
     induction l with
     | nil=>intro _;exact .nil
     | cons i l ih=>
      intro h
      have hi:i<xs.length:=by rw [hR.1];exact h i (cg ..)
      obtain ⟨u,eu,rU⟩:=rv.get (ah hi)
      refine .cons ?_ (ih fun j hj=>h j (av _ hj))
      show RelV (xs.getD i V.non) (its.getD i Value.none)
      rw [aj,aj,eu,ah hi]
      exact rU
    exact all _ hb
  ·refine ⟨by rw [af,af],fun i row hr=>?_⟩
   rw [az] at hr
   cases ep:p.toList[i]? with
   | none=>rw [ep] at hr;cases hr
   | some k=>
    rw [ep] at hr
    obtain rfl:R.getD k []=row:=cu hr
    have hk:=hb k (aw ep)
    obtain ⟨b,e1,e2⟩:=hR.2 k R[k] (ah hk)
    refine ⟨b,?_,?_⟩
    ·rw [az,ep]
     show some (xs.getD k V.non)=_
     rw [aj,e1];rfl
    ·rw [aj,ah hk];exact e2
 rcases hq with hq | hq
 ·obtain ⟨its,rv,pl,hz⟩:=I.list hq
  obtain ⟨o,ho,hc,n,hd⟩:=pl.isList
  exact go its o n "list" rv ho hc (.inl rfl) hd
 ·obtain ⟨its,rv,pl,hz⟩:=I.tuple hq
  obtain ⟨o,ho,hc,n,hd⟩:=pl
  exact go its o n "tuple" rv ho hc (.inr rfl) hd
theorem xL {X:Cx}{K:ae}(hK:X.K=K):CallR X (.builtin "sorted") (aCj K):=by subst hK;exact aAA
def sS (K:ae):List V->Hp->VK->Prop:=fun vs H Q=>xK K vs H Q\/aCj K vs H Q
theorem gH {X:Cx}{K:ae}(hK:X.K=K):CallR X (.builtin "sorted") (sS K):=fun pins s σ H xs us Q I r h=>h.elim (vH hK pins s σ H xs us Q I r) (xL hK pins s σ H xs us Q I r)
end L2
namespace L2
open PySem PyProof.Rows
section
variable {X:Cx}
end
section
variable {X:Cx}
end
end L2
namespace L2
open PySem PySem.Spec PyProof.Rows
section
variable {prog:Program}{w:World}{A:Around}{E:Value->Shared->Prop}{s:Shared}{d:Addr}{o:Obj}{es:Array DictEntry}{ep:Nat}
end
section
variable {prog:Program}{w:World}{K:Type}[DecidableEq K]{knd:HeapKind prog w K}{A:Around}{E:Value->Shared->Prop}{s:Shared}{d a:Addr}{xs:List (K × Addr × Value)}{k:K}
end
section
variable {X:Cx}{pins:List (Addr × Obj)}{σ:St}{H:Hp}{s:Shared}{A:Around}{E:Value->Shared->Prop}{a b:Addr}{kvs:List (List Key × V)}{k:List Key}
end
section
variable {X:Cx}{o e f:Expr}{td ty tx:TE}{apos cpos:Pos}
end
section
variable {prog:Program}{w:World}{A:Around}{E:Value->Shared->Prop}{s:Shared}{d:Addr}{o:Obj}{es:Array DictEntry}{ep:Nat}
end
section
variable {prog:Program}{w:World}{A:Around}{E:Value->Shared->Prop}{s:Shared}
end
section
variable {X:Cx}{o i value:Expr}{pos pos':Pos}{td ty tv:TE}
end
section
variable {X:Cx}
def CMulG (i j:Int):Prop:=i.natAbs<2 ^ 8000/\j.natAbs<2 ^ 8000
theorem aBz {k:Int}(h:k.natAbs<2 ^ 8000):qd k<=8000:=by
 unfold qd
 split
 ·exact bh _
 ·rename_i c
  have hk:k.natAbs≠0:=fun e=>c (by simp [Int.natAbs_eq_zero.mp e])
  have:=(Nat.log2_lt hk).mpr h
  omega
theorem CMulG.ok {i j:Int}(h:CMulG i j):IntMulOk i j:=by
 unfold IntMulOk Builtin.Int.intTooBig
 have h1:=aBz h.1
 have h2:=aBz h.2
 have:¬ (((qd i+qd j:Nat):Int) > (bitsLine:Int)):=by
  have:(16000:Int)<=(bitsLine:Int):=by decide
  omega
 intro e
 rw [ff] at e
 have:=of_decide_eq_true e.2
 omega
def dP:R2:=fun x y H Q=>match x,y with
 | .int i, .int j=>(CMul i j\/CMulG i j)/\Q (.int (i*j)) H
 | .ref a, .int k=>aJs (.ref a) (.int k) H Q
 | _,_=>False
theorem cK:OpR X (lh .Mult) dP:=by
 intro pins s σ H x y v u Q I rx ry h
 unfold dP at h
 split at h
 ·rcases h with ⟨h | h,q⟩
  ·exact aGO (X:=X) pins s σ H _ _ v u Q I rx ry ⟨_,_,rfl,rfl,h,q⟩
  ·exact (opI fun _ _ _ _ _ _ _ hc q=>mul_int q hc.ok:OpR X (lh .Mult) (rI CMulG fun i j => .int (i*j))) pins s σ H _ _ v u Q I rx ry ⟨_,_,rfl,rfl,h,q⟩
 ·exact aHy (X:=X) pins s σ H _ _ v u Q I rx ry h
 ·exact h.elim
def aHm (i j:Int):Prop:=0<j/\j.natAbs<2 ^ 8000
abbrev pQ:R2:=rI aHm fun i j => .int (i / j)
theorem gO:OpR X (lh .FloorDiv) pQ:=opI fun i j _ _ _ _ _ hc q=>by
 have h1:(0:Int)<j:=hc.1
 refine floordiv_int (by omega) (by rw [Int.fdiv_eq_ediv_of_nonneg i (by omega)];exact q) (.inl (PyProof.noPylong_of_log2 ?_))
 have:=(Nat.log2_lt (show j.natAbs≠0 by omega)).mpr hc.2
 omega
end
def aBj:Nat->List (List Nat)
 | 0=>[[]]
 | n+1=>aBj n++(aBj n).map (· ++ [n])
def aDu:List (List Nat):=aBj 8
theorem lP:∀ (n:Nat) (ks:List Nat),ks.Pairwise (· < ·)->(∀ k∈ks,k<n)->ks∈aBj n
 | 0,ks,_,h=>by
  cases ks with
  | nil=>exact bq.mpr rfl
  | cons k ks=>exact absurd (h k (cg ..)) (mh _)
 | n+1,ks,hp,h=>by
  rw [aBj,de,cy]
  rcases List.eq_nil_or_concat ks with rfl | ⟨l,x,rfl⟩
  ·exact .inl (lP n [] .nil fun k z=>by cases z)
  ·rw [List.concat_eq_append] at hp h ⊢
   have hl:=(zk.mp hp)
   have hx:x<n+1:=h x (dg _ (bq.mpr rfl))
   by_cases c:x=n
   ·subst c
    exact .inr ⟨l,lP _ l hl.1 fun k hk=>hl.2.2 k hk _ (bq.mpr rfl),rfl⟩
   ·refine .inl (lP n _ hp fun k hk=>?_)
    rcases de.mp hk with hk | hk
    ·have:=hl.2.2 k hk x (bq.mpr rfl);omega
    ·rw [bq.mp hk];omega
def smT (led:Bool) (ks:List Nat):SetTable:={ mask:=if ks.length<=4 then 7 else 31,place:=ks.toArray,dummies:=#[],finger:=0,led:=led,moves:=if ks.length<=4 then 0 else 1,plain:=true }
def aBO (ks:List Nat) (k:Nat):List Nat:=ks.take (cf ks.toArray k)++k :: ks.drop (cf ks.toArray k)
def smP (led:Bool) (ks:List Nat) (k:Nat):SetTable:={ smT led ks with place:=(aBO ks k).toArray }
def aJg (ks:List Nat):Bool:=decide (ks.Pairwise (· < ·)) && ks.all (fun k=>decide (k<8)) && decide (ks.length<=8)
def aHR (led:Bool) (ks:List Nat) (k:Nat):Bool:=ks.contains k || (decide ((smT led ks).freeSlot (Int.ofNat k)=some (k,false)) && decide ((smT led ks).put k=(smP led ks k,cf ks.toArray k)) && (smP led ks k).fits (ks.length+1)
 && aJg (aBO ks k) && decide ((smP led ks k).tooFull=(ks.length == 4)) && (if ks.length=4 then decide ((smP led ks k).relaid ((aBO ks k).map Int.ofNat).toArray (wb 5)=some (smT led (aBO ks k),#[0,1,2,3,4])) else decide (smP led ks k=smT led (aBO ks k))))
theorem aGL:(aDu.all fun ks=>(ar 8).all fun k=>aHR true ks k && aHR false ks k)=true:=by decide +kernel
theorem aIS {led:Bool}{ks:List Nat}(h:ks∈aDu){k:Nat}(hk:k<8)(hn:k∉ks):(smT led ks).freeSlot (Int.ofNat k)=some (k,false)/\(smT led ks).put k=(smP led ks k,cf ks.toArray k)/\(smP led ks k).fits (ks.length+1)=true/\aBO ks k∈aDu/\(smP led ks k).tooFull=(ks.length == 4) /\
  (ks.length=4->(smP led ks k).relaid ((aBO ks k).map Int.ofNat).toArray (wb 5)=some (smT led (aBO ks k),#[0,1,2,3,4]))/\(ks.length≠4->smP led ks k=smT led (aBO ks k)):=by
 have a:=fg.mp (fg.mp aGL ks h) k (cp.mpr hk)
 have b:aHR led ks k=true:=by
  rw [ff] at a
  cases led
  ·exact a.2
  ·exact a.1
 unfold aHR at b
 have c:ks.contains k=false:=by rw [<- p6];intro z;exact hn (yv.mp z)
 rw [c,Bool.false_or] at b
 simp only [ff,decide_eq_true_eq] at b
 obtain ⟨⟨⟨⟨⟨b1,b2⟩,b3⟩,b4⟩,b5⟩,b6⟩:=b
 refine ⟨b1,b2,b3,?_,b5,fun z=>?_,fun z=>?_⟩
 ·unfold aJg at b4
  simp only [ff,decide_eq_true_eq,fg] at b4
  exact lP 8 _ b4.1.1 b4.1.2
 ·rw [if_pos z] at b6;exact of_decide_eq_true b6
 ·rw [if_neg z] at b6;exact of_decide_eq_true b6
theorem tF {α:Type}:∀ {l:List α} {i:Nat} (h:i<l.length),([l[i]]++l.eraseIdx i).Perm l
 | x :: l,0,_ => .refl _
 | x :: l,i+1,h=>by
  have h':i<l.length:=by simpa using h
  have:=tF h'
  rw [List.eraseIdx_cons_succ,List.getElem_cons_succ]
  exact (List.Perm.swap _ _ _).trans (List.Perm.cons x this)
theorem aAN {α:Type}(f:Nat->Nat):∀ (n k:Nat) (l:List α) (o:Array α),l.length=n->(A5 f n k l o).toList.Perm (o.toList++l)
 | 0,_,[],o,_=>by rw [A5,lx]
 | n+1,k,l,o,h=>by
  have hl:f k % l.length<l.length:=AN _ (by omega)
  rw [A5,ah hl]
  refine (aAN f n (k+1) _ _ (by rw [List.length_eraseIdx,if_pos hl];omega)).trans ?_
  rw [Array.toList_push,gg]
  exact yo _ (tF hl)
theorem aBn {α:Type}(f:Nat->Nat)(xs:Array α):(pickOrder f xs).toList.Perm xs.toList:=by
 have:=aAN f xs.size 0 xs.toList #[] (fc ..)
 simpa [pickOrder] using this
def byT (w:World):Bool:=w.params.followText "set-order"
abbrev smO (w:World) (es:Array (Int × Value)) (ep:Nat) (ks:List Nat):Obj:={ cls := .type "set",dict:=none,data := .set es ep (smT (!byT w) ks) }
def SmE (es:Array (Int × Value)) (ks:List Nat):Prop:=ks∈aDu/\es.toList.map (·.1)=ks.map Int.ofNat/\∀ e∈es.toList,∃ tk,e.2 = .int e.1 tk
section
variable {prog:Program}{w:World}{A:Around}{E:Value->Shared->Prop}{s:Shared}
theorem SmE.put {es:Array (Int × Value)}{ks:List Nat}(h:SmE es ks){k:Nat}(hk:k<8)(hn:k∉ks)(t:Tok):SmE (wy es (cf ks.toArray k) (Int.ofNat k, .int (Int.ofNat k) t)) (aBO ks k):=by
 refine ⟨(aIS (led:=true) h.1 hk hn).2.2.2.1,?_,?_⟩
 ·rw [qi,cq,df,xh,uf,h.2.1]
  unfold aBO
  rw [cq,df,xh,uf]
 ·intro e he
  rw [(SetTable.insertAt_perm es _ _).mem_iff,Array.toList_push,de,bq] at he
  rcases he with he | rfl
  ·exact h.2.2 e he
  ·exact ⟨t,rfl⟩
theorem aCA {h:Heap}{a:Addr}{es es':Array (Int × Value)}{ep:Nat}{ks:List Nat}{t t':SetTable}{o:Obj}(ho:h.get? a=some o)(ed:o.data = .set es ep t):(h.update a (Obj.putSet es' t')).get? a=some { o with data := .set es' (ep+1) t' }:=by
 have:=i4 (Obj.putSet es' t') ho (by rw [putSet_of es' t' ed];rfl)
 rw [putSet_of es' t' ed] at this
 exact this
end
section
variable {prog:Program}{w:World}{A:Around}{R:zq->Shared->Prop}{I:Addr}{fp wr:List Addr}{G:Array GenState->Array GenState->Prop}{n:Nat}{P:Nat->Value->Prop}{St:Nat->Shared->Prop}
end
section
variable {prog:Program}{w:World}{A:Around}{E:Value->Shared->Prop}{s:Shared}
theorem aHx (a:Value){Q₁:Value->Shared->Prop}(h:Q₁ (.ref s.heap.objs.size) { s with heap:=s.heap.push (smO w #[] 0 []) }) :
  uq (model prog w) A (.call (.builtin "set.__new__") ⟨[.type "set",a],[]⟩) (wants Q₁ E) s:=by
 refine yj ?_
 show wpAny _ A.in1 (do xx "set.__new__" ⟨[.type "set",a],[]⟩;again (.builtin "set.__new__" ⟨[.type "set",a],[]⟩)) _ _ s
 refine aa (uv (F.newCall_set_1 a) (ak ⟨oz F.plain_set_new _,i5 F.entry_set_new ?_⟩))
 rw [i8 F.plain_set_new _]
 unfold Builtin.«set.__new__» Builtin.Frozenset.newClass
 have hsub:=sub_set_self
 obtain ⟨hp,g,d,tk,os⟩:=s
 dsimp only
 wp_walk
 refine mz (ak ?_)
 dsimp only
 simp only [newObj]
 refine aa (wpAny_alloc (ak ?_))
 exact ak h
end
theorem qI:Manifest.owners.lookup (String.ofList ['r','o','t','a','r','e','t','i','_','t','e','s'].reverse)=some Manifest.sig_set_iterator:=by kernel_rfl
theorem cV:Slot "set_iterator" "__next__" "set_iterator.__next__":=
 .of (owner:="set_iterator") (n:="__next__") (by rw [typeLookup_type,yx];kernel_rfl) (by decide +kernel) (by decide +kernel) (by decide +kernel)
  (by first | exact .inl (by decide +kernel) | exact .inr (by decide +kernel)) (by rw [z8];kernel_rfl)
theorem iV:entryFor table "set_iterator.__next__" = some Builtin.«set_iterator.__next__»:=entryFor_of_tree (by kernel_rfl)
theorem jU (a:Value):argsOk "set_iterator.__next__" ⟨[a],[]⟩:=by
 unfold argsOk;rw [signature?_of (id:="set_iterator.__next__") (n:=['_','_','t','x','e','n','_','_']) (o:=['r','o','t','a','r','e','t','i','_','t','e','s']) (by kernel_rfl) qI];kernel_rfl
theorem rP:entryFor table "set.__iter__" = some Builtin.«frozenset.__iter__»:=
 entryFor_alias (id':="frozenset.__iter__") (by kernel_rfl) rfl (by decide +kernel) (by kernel_rfl)
def SIt (it a:Addr) (slot i n ep:Nat) (h:Heap):Prop:=∃ o,h.get? it=some o/\o.cls = .type "set_iterator"/\o.data = .fields #[lr slot,lr i, .ref a,lr n,lr ep]
def gC (w:World) (ks:List Nat):Nat->Nat
 | 0=>0
 | i+1=>if byT w then 0 else ks.getD i 0+1
def hU (w:World) (a:Addr) (ep:Nat) (es:Array (Int × Value)):Array (Int × Value):=if byT w then pickOrder (w.params.setOrder a ep) es else es
theorem lC (w:World)(a:Addr)(ep:Nat)(es:Array (Int × Value)):(hU w a ep es).toList.Perm es.toList:=by
 unfold hU
 split
 ·exact aBn _ _
 ·exact .refl _
section
variable {prog:Program}{w:World}{A:Around}{E:Value->Shared->Prop}{s:Shared}{a:Addr}{es:Array (Int × Value)}{ep:Nat}{ks:List Nat}
theorem SIt.step {h:Heap}{it:Addr}{slot i n slot':Nat}(x:SIt it a slot i n ep h):SIt it a slot' (i+1) n ep ((h.update it (xn (·.setIfInBounds 0 (lr slot')))).update it (xn (·.setIfInBounds 1 (lr ((i:Int)+1))))):=by
 obtain ⟨o,h1,h2,h3⟩:=x
 have d1:=nv h3 (·.setIfInBounds 0 (lr slot'))
 have g1:=i4 (xn (·.setIfInBounds 0 (lr slot'))) h1 (om d1)
 have d2:=nv d1 (·.setIfInBounds 1 (lr ((i:Int)+1)))
 exact ⟨_,i4 _ g1 (om d2),(wu ..).trans ((wu ..).trans h2),by rw [d2];simp [lr]⟩
theorem SIt.typeIs {it:Addr}{slot i n:Nat}(x:SIt it a slot i n ep s.heap):s.TypeIs (.ref it) "set_iterator":=let ⟨o,h1,h2,_⟩:=x;⟨o,h1,h2⟩
end
end L2
namespace L2
open PySem PySem.Spec PySem.W PyProof.Rows
theorem jM:Slot "set_iterator" "__iter__" "set_iterator.__iter__":=
 .of (owner:="set_iterator") (n:="__iter__") (by rw [typeLookup_type,yx];kernel_rfl) (by decide +kernel) (by decide +kernel) (by decide +kernel)
  (by first | exact .inl (by decide +kernel) | exact .inr (by decide +kernel)) (by rw [z8];kernel_rfl)
theorem oN:entryFor table "set_iterator.__iter__" = some Builtin.«dict_keyiterator.__iter__»:=
 entryFor_alias (id':="dict_keyiterator.__iter__") (by kernel_rfl) rfl (by decide +kernel) (by kernel_rfl)
theorem pO (a:Value):argsOk "set_iterator.__iter__" ⟨[a],[]⟩:=by
 unfold argsOk;rw [signature?_of (id:="set_iterator.__iter__") (n:=['_','_','r','e','t','i','_','_']) (o:=['r','o','t','a','r','e','t','i','_','t','e','s']) (by kernel_rfl) qI];kernel_rfl
section
variable {prog:Program}{w:World}{A:Around}{E:Value->Shared->Prop}{s:Shared}{a:Addr}{es:Array (Int × Value)}{ep:Nat}{ks:List Nat}
theorem SIt.at {h h':Heap}{it:Addr}{sl i n:Nat}(x:SIt it a sl i n ep h)(e:∀ o,h.get? it=some o->h'.get? it=some o):SIt it a sl i n ep h':=let ⟨o,ho,r⟩:=x;⟨o,e _ ho,r⟩
theorem aCY {Q:Bool->Shared->Prop}(hT:s.TypeIs (.ref a) "set")(h:Q false s):wpAny (model prog w) A (u6 (.ref a)) Q E s:=by
 unfold u6
 refine aa (mf hT PySem.F.slot_set_len.lookup ?_)
 generalize hid:("set.__len__" : String)=id0
 wp_delta
 rw [show splitId id0=some ("set","__len__") from by subst hid;decide +kernel]
 subst hid
 refine aa (nh (T:="set") (b:=true) hT (by rw [z8];kernel_rfl) ?_)
 refine wpAny_ite_split (fun hab=>absurd hab (by decide)) (fun _=>?_)
 refine wpAny_ite_split (fun _=>?_) (fun hab=>absurd (by decide +kernel) hab)
 refine aa (sg hT ?_)
 exact ak h
end
section
variable {X:Cx}
def tCl (t:TA):TA:=fun σ H Q=>∃ R:List V->Hp->Prop,t σ H R/\∀ vs H1,R vs H1->Q vs H1
theorem aIN {es:List Expr}{t:TA}(h:PA X es t):PA X es (tCl t):=fun pos pins s σ H Q I ⟨R,h1,h2⟩=>thn (h pos pins s σ H R I h1) fun us s1 ⟨vs,H1,I1,r,q⟩=>⟨vs,H1,I1,r,h2 vs H1 q⟩
end
end L2
namespace L2
open PySem PySem.Spec PyProof.Rows
theorem DP.at {X:Cx}{pins:List (Addr × Obj)}{σ:St}{H:Hp}{s:Shared}{a:Addr}{xs:PEs}{ep:Nat}(I:Inv X pins σ H s)(d:DP H a xs ep) :
  s.TypeIs (.ref a) "dict"/\(∀ b,Value.ref a = .ref b->∃ ob,s.heap.get? b=some ob/\ob.dict=none)/\(a == j5)=false:=by
 obtain ⟨_,hd,ys,_,dd⟩:=d.of I.hok
 refine ⟨dd.typeIs,fun b q=>?_,hd⟩
 cases q
 obtain ⟨ob,_,_,h1,h2,_⟩:=dd
 exact ⟨ob,h1,h2.2.1⟩
section
variable {X:Cx}{o e f:Expr}{apos cpos:Pos}{td ty tx:TE}
end
structure DefV (P:Program)(w:World)(K:ae)(mg:Str->Option Value)(base:Heap)(k:Nat)(f:Addr)(sp:Sp):Prop where
 ex:∃ (fd:FuncData) (ps:List Str),FnOk P w K mg base (sU P w) k f fd ps sp/\da K (.ref f)=true/\Binds K fd ps []
theorem DefV.mono {P:Program}{w:World}{K:ae}{mg:Str->Option Value}{base:Heap}{j k:Nat}{f:Addr}{sp:Sp}(D:DefV P w K mg base j f sp)(h:j<=k):DefV P w K mg base k f sp:=by
 obtain ⟨fd,ps,F,r⟩:=D.ex
 exact ⟨fd,ps,F.mono h,r⟩
theorem DefX.v {P:Program}{w:World}{K:ae}{mg:Str->Option Value}{base:Heap}{x:Str}{k:Nat}{ps:List Str}{sp:Sp}{f:Addr}(D:DefX P w K mg base x k ps sp)(h:mg x=some (.ref f)):DefV P w K mg base k f sp:=by
 obtain ⟨f',fd,F,hm,hk,hb⟩:=D.ex
 rw [h] at hm
 cases hm
 exact ⟨fd,ps,F,hk,hb⟩
def zH (fo:Addr->Sp->Prop) (E:XK) (tf:TE) (t:TA):TE:=fun σ H Q=>tf σ H fun x H1=>∃ f sp,x = .ref f/\fo f sp/\bG sp [] E t σ H1 Q
theorem tS {X:Cx}{k:Nat}{fo:Addr->Sp->Prop}{pos:Pos}{fe e:Expr}{es:List Expr}{tf:TE}{t:TA}{E:XK}(D:∀ f sp,fo f sp->DefV X.prog X.w X.K X.mg X.base k f sp)(hr:Room k X.A)(hx:mG (sU X.prog X.w) X E)(hf:PE X fe tf)(ha:PA X (e :: es) t)
  (hev:eval (.Call fe (e :: es) [] pos) X.env=(do callWith pos (<- eval fe X.env) [] (vg pos (fm (e :: es) X.env)) (backToKw pos (Bc [] X.env))):=by rfl)
  (he:fm (e :: es) X.env=(false,eval e X.env) :: fm es X.env:=by rfl) (hpl:(vg pos (fm es X.env)).any (·.1)=false:=by rfl) :
  PE X (.Call fe (e :: es) [] pos) (zH fo E tf t):=by
 intro pins s σ H Q I h
 rw [hev]
 refine aa (thn (hf pins s σ H _ I h) fun v s1 ⟨x,H1,I1,rx,f,sp,ex,hfo,q⟩=>?_)
 subst ex
 obtain rfl:v=Value.ref f:=rx
 obtain ⟨fd,ps,F,hk,hb⟩:=(D f sp hfo).ex
 refine PySem.W.callWith_K (h₀:=X.base) I.ok.mod.kin hk (thn (ha pos pins s1 σ H1 _ I1 q) fun us s2 ⟨vs,H2,I2,r,q2⟩=>⟨I2.kIn,?_⟩) he hpl
 exact aEm F hr hb .nil hx I2 r q2
section
variable {X:Cx}
def yJ (r r' r'':R2) (ta tb tc td:TE):TE:=fun σ H Q=>ta σ H fun x H1=>tb σ H1 fun y H2=>r x y H2 fun z H3=>∃ k,z = .bl k /\
 (if k=true then tc σ H3 fun w' H4=>r' y w' H4 fun z2 H5=>∃ k2,z2 = .bl k2/\(if k2=true then td σ H5 fun u' H6=>r'' w' u' H6 Q else Q (.bl false) H5) else Q (.bl false) H3)
theorem aBI {a b c d:Expr}{ta tb tc td:TE}{pos:Pos}{op op' op'':CmpOp}{r r' r'':R2}(ho:OpR X (i7 op) r)(ho':OpR X (i7 op') r')(ho'':OpR X (i7 op'') r'')(ha:PE X a ta)(hb:PE X b tb)(hc:PE X c tc)(hd:PE X d td)
  (hm:lastMarks [op,op',op''] [b,c,d]=false:=by with_unfolding_all rfl):PE X (.Compare a [op,op',op''] [b,c,d] pos) (yJ r r' r'' ta tb tc td):=by
 intro pins s σ H Q I h
 refine Compare_chain (thn (ha pins s σ H _ I h) fun v s1 ⟨x,H1,I1,r1,q1⟩=>chain_link (thn (hb pins s1 σ H1 _ I1 q1) fun u s2 ⟨y,H2,I2,r2,q2⟩=>
  thn (ho pins s2 σ H2 x y v u _ I2 r1 r2 q2) fun d s3 ⟨z,H3,I3,r3,k,e,q3⟩=>?_)) hm
 subst e
 cases r3
 refine ir ?_
 cases k with
 | false=>exact ite_ff ⟨.bl false,H3,I3,rfl,q3⟩
 | true=>
  refine ite_tt (chain_link (thn (hc pins s3 σ H3 _ I3 q3) fun w' s4 ⟨z',H4,I4,r4,q4⟩=>thn (ho' pins s4 σ H4 y z' u w' _ I4 r2 r4 q4) fun d' s5 ⟨z2,H5,I5,r5,k2,e2,q5⟩=>?_))
  subst e2
  cases r5
  refine ir ?_
  cases k2 with
  | false=>exact ite_ff ⟨.bl false,H5,I5,rfl,q5⟩
  | true=>exact ite_tt (chain_last (thn (hd pins s5 σ H5 _ I5 q5) fun w2 s6 ⟨z3,H6,I6,r6,q6⟩=>ho'' pins s6 σ H6 z' z3 w' w2 Q I6 r4 r6 q6))
def aIY:List V->Hp->VK->Prop:=fun xs H Q=>∃ a kvs,xs=[V.ref a]/\H a=some (.dK kvs)/\Q (.int kvs.length) H
def aIv:V->List V->Hp->VK->Prop:=fun x vs H Q=>∃ (l:Addr) (xs:List V) (y:V),x = .ref l/\vs=[y]/\H l=some (.lst xs)/\mS y=true/\xs.all mS=true/\Q (.int ((xs.countP fun z=>eqV z y):Nat)) H
theorem aBk {y:V}:∀ {xs:List V} {us:List Value},Vals xs us->xs.all mS=true->us.countP (eqU y)=xs.countP fun z=>eqV z y
 | _,_, .nil,_=>rfl
 | x :: xs,u :: us, .cons r t,f=>by
  rw [qo,ff] at f
  rw [nj,nj,aBk t f.2,zO r f.1]
theorem aGb:MtM X "list.count" aIv:=by
 intro pins s σ H x vs v us Q I rx rv h
 obtain ⟨l,xs,y,rfl,rfl,hH,fy,fs,q⟩:=h
 cases rx
 obtain ⟨u,rfl,ru⟩:=rv.one
 obtain ⟨zz,its,n,r,hl,e⟩:=I.lstM hH
 refine wk F.slot_list_count ⟨_,e,rfl⟩ F.entry_list_count (F.args_list_count_2 _ _)
  (SeqAt.list_countAt l its.toArray n none #[] u (eqU y)) ⟨e,fun w hw=>iG ru fy r fs w (by simpa using hw),?_⟩
 rw [show (its.toArray.toList.countP (eqU y))=xs.countP fun z=>eqV z y from aBk r fs]
 exact ⟨.int _,H,I.tok _,⟨_,rfl⟩,q⟩
end
open PySem.SeqAt PySem.MeetsSeq3
section
variable {A:Around}{s:Shared}{l b:Addr}{us vs:List Value}{R S:List (List Int)}
end
open PySem.SeqAt PySem.MeetsSeq
open AutoSeq1 (wpAny_loadPart')
section
variable {X:Cx}
end
end L2
namespace L2
open PySem
section
variable {X:Cx}
end
end L2
namespace L2
open PySem PySem.Spec PyProof.Rows
section
variable {X:Cx}
end
section
variable {X:Cx}
end
end L2
namespace L2
open PySem PySem.W PyProof.Rows
open PySem.SeqAt
section
variable {prog:Program}{w:World}{A:Around}{E:Value->Shared->Prop}{s:Shared}
end
section
variable {X:Cx}
end
section
variable {X:Cx}{a b c d:Expr}{ta tb tc td:TE}{pos:Pos}
end
end L2
namespace L2
open PySem PySem.Spec PyProof.Rows
section
variable {M:Model}{A:Around}{E:Value->Shared->Prop}{s:Shared}
end
section
variable {X:Cx}{pins:List (Addr × Obj)}{σ:St}{H:Hp}{s:Shared}{E:XK}{a:Addr}{cls a0:Value}{B h2:Heap}
end
section
variable {P:Program}{w:World}{K:ae}{mg:Str->Option Value}{base:Heap}{N:List Str}{qual:Str}{scope:Scope}{f:Addr}{cd:Value}{A:Around}{outer:List Env}{s₀:Shared}{H₀:Hp}{E:XK}
end
section
variable {X:Cx}
end
section
variable {X:Cx}{elt target iter:Expr}{ifs:List Expr}{rest:List Comprehension}{scope:Scope}{pos:Pos}{N':List Str}{ix:List (Option Nat)}{wi:TI}{g:TG}{ts:List TT}{tb:Addr->TS}{E:XK}
end
section
variable {prog:Program}{w:World}{A:Around}{E:Value->Shared->Prop}{s:Shared}
end
section
variable {prog:Program}{w:World}{A:Around}{s:Shared}{R:zq->Shared->Prop}
end
section
variable {prog:Program}{w:World}{A:Around}{E:Value->Shared->Prop}{s:Shared}
end
section
variable {X:Cx}{pins:List (Addr × Obj)}{σ:St}{H H2:Hp}{s:Shared}{h':Heap}
end
section
variable {prog:Program}{w:World}{A:Around}{R:zq->Shared->Prop}{It:Addr}{fp wr:List Addr}{n:Nat}{P:Nat->Value->Prop}{St:Nat->Heap->Prop}
end
section
variable {prog:Program}{w:World}{A:Around}{E:Value->Shared->Prop}{s:Shared}
end
theorem sR {pl:List Nat}(ris:pl.Pairwise (· < ·)){i m x y:Nat}(h:i<m)(hx:pl[i]?=some x)(hy:pl[m]?=some y):x<y:=by
 obtain ⟨h1,rfl⟩:=ai.mp hx
 obtain ⟨h2,rfl⟩:=ai.mp hy
 exact pz.mp ris i m h1 h2 h
theorem yA {pl:List Nat}{j:Nat}(ris:pl.Pairwise (· < ·)):∀ (f lo hi:Nat),hi<=pl.length->lo<=hi->hi - lo<=f->(∀ i x,i<lo->pl[i]?=some x->x<j)->(∀ i x,hi<=i->pl[i]?=some x->j<=x) ->
  o6 pl.toArray j f lo hi<=pl.length/\(∀ i x,i<o6 pl.toArray j f lo hi->pl[i]?=some x->x<j)/\∀ i x,o6 pl.toArray j f lo hi<=i->pl[i]?=some x->j<=x
 | 0,lo,hi,h1,h2,h3,h4,h5=>by
  have e:lo=hi:=by omega
  subst e
  rw [o6]
  exact ⟨h1,h4,h5⟩
 | f+1,lo,hi,h1,h2,h3,h4,h5=>by
  rw [o6]
  by_cases c:lo<hi
  ·rw [if_pos c]
   have hm:(lo+hi) / 2<pl.length:=by omega
   have em:pl[(lo+hi) / 2]?=some pl[(lo+hi) / 2]:=ah hm
   have eg:pl.toArray.getD ((lo+hi) / 2) j=pl[(lo+hi) / 2]:=by
    rw [dh,jg,em];rfl
   dsimp only
   rw [eg]
   by_cases d:pl[(lo+hi) / 2]<j
   ·rw [if_pos d]
    refine yA ris f _ hi h1 (by omega) (by omega) (fun i x hi' hx=>?_) h5
    by_cases q:i=(lo+hi) / 2
    ·subst q;rw [em] at hx;cases hx;exact d
    ·have:=sR ris (show i<(lo+hi) / 2 by omega) hx em;omega
   ·rw [if_neg d]
    refine yA ris f lo _ (by omega) (by omega) (by omega) h4 fun i x hi' hx=>?_
    by_cases q:i=(lo+hi) / 2
    ·subst q;rw [em] at hx;cases hx;omega
    ·have:=sR ris (show (lo+hi) / 2<i by omega) em hx;omega
  ·rw [if_neg c]
   have e:lo=hi:=by omega
   subst e
   exact ⟨h1,h4,h5⟩
theorem iA {pl:List Nat}(ris:pl.Pairwise (· < ·))(j:Nat):cf pl.toArray j<=pl.length/\(∀ i x,i<cf pl.toArray j->pl[i]?=some x->x<j)/\∀ i x,cf pl.toArray j<=i->pl[i]?=some x->j<=x:=by
 unfold cf
 refine yA ris _ 0 _ (by simp) (bh _) (by simp) (fun i x h=>absurd h (mh _)) fun i x h hx=>?_
 have:i<pl.length:=(ai.mp hx).1
 have:pl.toArray.size=pl.length:=by simp
 omega
theorem aEk {pl:List Nat}(ris:pl.Pairwise (· < ·)){i j:Nat}(h:pl[i]?=some j):cf pl.toArray j=i:=by
 obtain ⟨b1,b2,b3⟩:=iA ris j
 rcases rl (cf pl.toArray j) i with c | c | c
 ·have hl:cf pl.toArray j<pl.length:=Nat.lt_trans c (ai.mp h).1
  have e:=ah hl
  have:=b3 _ _ (ay _) e
  have:=sR ris c e h
  omega
 ·exact c
 ·have:=b2 i j c h;omega
theorem aAy {pl:List Nat}(ris:pl.Pairwise (· < ·)){i j:Nat}(h:pl[i]?=some j):cf pl.toArray (j+1)=i+1:=by
 obtain ⟨b1,b2,b3⟩:=iA ris (j+1)
 have hi:=(ai.mp h).1
 rcases rl (cf pl.toArray (j+1)) (i+1) with c | c | c
 ·have:=b3 i j (by omega) h;omega
 ·exact c
 ·have hl:i+1<pl.length:=by omega
  have e:=ah hl
  have:=b2 _ _ c e
  have:=sR ris (nc i) h e
  omega
theorem aAH {pl:List Nat}(ris:pl.Pairwise (· < ·)):cf pl.toArray 0=0:=by
 obtain ⟨b1,b2,b3⟩:=iA ris 0
 refine dz fun c=>?_
 have hl:0<pl.length:=by omega
 have:=b2 0 _ (by omega) (ah hl)
 omega
section
variable {t:SetTable}{pl:List Nat}
theorem slot_in (hp:t.place=pl.toArray)(ris:pl.Pairwise (· < ·)){i j:Nat}(h:pl[i]?=some j):t.slot j = .live i:=by
 unfold SetTable.slot
 rw [hp]
 dsimp only
 rw [aEk ris h,jg,h,if_pos (by simp)]
theorem aDF (hp:t.place=pl.toArray)(hd:t.dummies=#[]){j:Nat}(h:j∉pl):t.slot j = .empty:=by
 unfold SetTable.slot
 rw [hp,hd]
 dsimp only
 have e1:(pl.toArray[cf pl.toArray j]? == some j)=false:=by
  rw [<- p6]
  intro z
  have:=wj z
  rw [jg] at this
  exact h (aw this)
 have e2:yy #[] j=false:=by
  unfold yy
  rw [<- p6]
  intro z
  have:=wj z
  simp at this
 rw [e1,e2]
 rfl
end
def rnL (mask i:Nat):List Nat:=(ar (je mask i+1 - i)).map (i + ·)
def aDk (mask:Nat):Nat->Nat->Nat->List Nat
 | 0,_,_=>[]
 | f+1,i,p=>rnL mask i++aDk mask f (gj mask i p).1 (gj mask i p).2
inductive Fut (mask:Nat):SetTable.Probe->List Nat->Prop
 | nil (p):Fut mask p []
 | one (p) (x:Nat) (e:p.j=x):Fut mask p [x]
 | more (p:SetTable.Probe) (x:Nat) (L:List Nat) (e:p.j=x) (h0:0<p.more) (h:Fut mask { p with j:=p.j+1,more:=p.more - 1 } L):Fut mask p (x :: L)
 | leap (p:SetTable.Probe) (x:Nat) (L:List Nat) (e:p.j=x) (h0:p.more=0) (h:Fut mask { p with j:=(gj mask p.i p.perturb).1,more:=je mask (gj mask p.i p.perturb).1 - (gj mask p.i p.perturb).1,i:=(gj mask p.i p.perturb).1,perturb:=(gj mask p.i p.perturb).2 } L):Fut mask p (x :: L)
theorem aBM {mask i pt:Nat}{L:List Nat}(h:Fut mask { j:=(gj mask i pt).1,more:=je mask (gj mask i pt).1 - (gj mask i pt).1,i:=(gj mask i pt).1,perturb:=(gj mask i pt).2,dummy:=none } L) :
  ∀ (m j:Nat),Fut mask { j:=j,more:=m,i:=i,perturb:=pt,dummy:=none } ((ar (m+1)).map (j + ·)++L)
 | 0,j=>by
  show Fut mask _ ((j+0) :: L)
  exact .leap _ _ _ rfl rfl h
 | m+1,j=>by
  have e:(ar (m+1+1)).map (j + ·)=j :: (ar (m+1)).map (j+1 + ·):=by
   rw [qz,df,ft]
   congr 1
   exact ij fun x _=>by show j+(x+1)=j+1+x;omega
  rw [e]
  exact .more _ _ _ rfl (Nat.succ_pos _) (aBM h m (j+1))
theorem aBE {mask i:Nat}:i<=je mask i:=by unfold je;split <;> omega
theorem uP {mask:Nat}:∀ (f i pt:Nat),Fut mask { j:=i,more:=je mask i - i,i:=i,perturb:=pt,dummy:=none } (aDk mask f i pt)
 | 0,i,pt => .nil _
 | f+1,i,pt=>by
  have:=aBM (uP f (gj mask i pt).1 (gj mask i pt).2) (je mask i - i) i
  show Fut mask _ ((ar (je mask i+1 - i)).map (i + ·)++_)
  have e:je mask i+1 - i=je mask i - i+1:=by have:=aBE (mask:=mask) (i:=i);omega
  rw [e]
  exact this
theorem aCp {t:SetTable}{pl:List Nat}(hp:t.place=pl.toArray)(hd:t.dummies=#[])(ris:pl.Pairwise (· < ·))(hs:Nat->Int)(h:Int):∀ (L:List Nat) (f:Nat) (p:SetTable.Probe),Fut t.mask p L->p.dummy=none->L.length<=f->(∃ x∈L,x∉pl) ->
  (∃ L1 x L2,L=L1++x :: L2/\(∀ y∈L1,y∈pl)/\x∉pl/\(∀ i y,y∈L1->pl[i]?=some y->hs i≠h)/\wz t hs h f p=some (.empty x none)) \/
  (∃ L1 x L2 i nx,L=L1++x :: L2/\(∀ y∈L1,y∈pl)/\pl[i]?=some x/\hs i=h/\wz t hs h f p=some (.candidate x i nx))
 | [],f,p,_,_,_,⟨_,z,_⟩=>by cases z
 | x :: L,0,p,_,_,hl,_=>by simp at hl
 | x :: L,f+1,p,fu,pd,hl,⟨y,hy,hn⟩=>by
  have ej:p.j=x:=by cases fu <;> assumption
  rw [wz]
  by_cases hx:x∈pl
  ·obtain ⟨i,hi⟩:=gi.mp hx
   rw [ej,slot_in hp ris hi]
   dsimp only
   by_cases c:hs i=h
   ·rw [if_pos (by simp [c])]
    exact .inr ⟨[],x,L,i,_,rfl,by simp,hi,c,rfl⟩
   ·rw [if_neg (by simp [c])]
    have hy:y∈L:=(bj.mp hy).resolve_left fun e=>hn (e ▸ hx)
    have step:Fut t.mask (t.advance p) L/\(t.advance p).dummy=none:=by
     unfold SetTable.advance
     cases fu with
     | one=>cases hy
     | more _ _ _ _ h0 fu=>rw [if_pos h0];exact ⟨fu,pd⟩
     | leap _ _ _ _ h0 fu=>rw [if_neg (by omega)];exact ⟨fu,pd⟩
    have hl':L.length<=f:=by simpa using hl
    rcases aCp hp hd ris hs h L f _ step.1 step.2 hl' ⟨y,hy,hn⟩ with ⟨L1,z,L2,e,q1,q2,q3,q4⟩ | ⟨L1,z,L2,k,nx,e,q1,q2,q3,q4⟩
    ·refine .inl ⟨x :: L1,z,L2,by rw [e];rfl,fun v hv=>?_,q2,fun i' v hv hi'=>?_,q4⟩
     ·rcases bj.mp hv with rfl | hv
      ·exact hx
      ·exact q1 v hv
     ·rcases bj.mp hv with rfl | hv
      ·have:i'=i:=by
        rcases rl i' i with q | q | q
        ·have:=sR ris q hi' hi;omega
        ·exact q
        ·have:=sR ris q hi hi';omega
       rw [this];exact c
      ·exact q3 i' v hv hi'
    ·refine .inr ⟨x :: L1,z,L2,k,nx,by rw [e];rfl,fun v hv=>?_,q2,q3,q4⟩
     rcases bj.mp hv with rfl | hv
     ·exact hx
     ·exact q1 v hv
  ·rw [ej,aDF hp hd hx]
   dsimp only
   rw [pd]
   exact .inl ⟨[],x,L,rfl,by simp,hx,by simp,rfl⟩
def hT (k:List Int):Int:=zd (fv (k.map hashInt))
def K28:List (List Int):=(ar 8).flatMap fun (i:Nat)=>(ar i).map fun (j:Nat)=>[(j:Int),(i:Int)]
def nR (mask:Nat):Nat:=if mask=7 then 14 else if mask=31 then 10 else 6
def SL (mask:Nat) (h:Int):List Nat:=aDk mask (nR mask) (mx h % (mask+1)) (mx h)
def aCR:List Nat->List Nat
 | []=>[]
 | x :: l=>if (aCR l).contains x then aCR l else x :: aCR l
theorem uH:∀ {l:List Nat} {x:Nat},x∈aCR l->x∈l
 | [],_,h=>h
 | y :: l,x,h=>by
  rw [aCR] at h
  split at h
  ·exact av _ (uH h)
  ·rcases bj.mp h with rfl | h
   ·exact cg ..
   ·exact av _ (uH h)
theorem xP:∀ l:List Nat,(aCR l).Nodup
 | []=>rz
 | x :: l=>by
  rw [aCR]
  split
  ·exact xP l
  ·rename_i h
   exact gh.mpr ⟨fun z=>h (yv.mpr z),xP l⟩
theorem aFj {α:Type}[DecidableEq α]:∀ (L M:List α),L.Nodup->(∀ x∈L,x∈M)->L.length<=M.length
 | [],M,_,_=>bh _
 | x :: L,M,nd,h=>by
  have nd':=gh.mp nd
  have hx:=h x (cg ..)
  have:=aFj L (M.erase x) nd'.2 fun y hy=>(List.mem_erase_of_ne (fun (e:y=x)=>nd'.1 (by rw [<- e];exact hy))).mpr (h y (av _ hy))
  rw [qj hx] at this
  have:0<M.length:=List.length_pos_of_mem hx
  rw [cw]
  omega
def moM (mask:Nat):Nat:=if mask=7 then 5 else if mask=31 then 19 else 30
def slB (k:List Int) (m:Nat):Bool:=decide (moM m<=(aCR (SL m (hT k))).length) && decide ((SL m (hT k)).length<=10*nr m) && (SL m (hT k)).all fun x=>decide (x<=m)
theorem aHD:(K28.all fun k=>slB k 7 && slB k 31 && slB k 127)=true:=by decide +kernel
theorem aIH:(K28.all fun k=>K28.all fun k'=>k == k' || !(hT k == hT k'))=true:=by decide +kernel
theorem aEr {k k':List Int}(h:k∈K28)(h':k'∈K28)(e:hT k=hT k'):k=k':=by
 have:=fg.mp (fg.mp aIH k h) k' h'
 rw [e,Bool.or_eq_true] at this
 rcases this with z | z
 ·exact wj z
 ·simp at z
def M3 (mask:Nat):Prop:=mask=7\/mask=31\/mask=127
theorem aDm {k:List Int}(h:k∈K28){m:Nat}(hm:M3 m):moM m<=(aCR (SL m (hT k))).length/\(SL m (hT k)).length<=10*nr m/\∀ x∈SL m (hT k),x<=m:=by
 have a:=fg.mp aHD k h
 simp only [ff] at a
 have b:slB k m=true:=by
  rcases hm with rfl | rfl | rfl
  ·exact a.1.1
  ·exact a.1.2
  ·exact a.2
 unfold slB at b
 simp only [ff,decide_eq_true_eq,fg] at b
 exact ⟨b.1.1,b.1.2,b.2⟩
theorem xX {k:List Int}(h:k∈K28){m:Nat}(hm:M3 m){pl:List Nat}(hl:pl.length<moM m):∃ x∈SL m (hT k),x∉pl:=by
 refine dz fun c=>?_
 have:=aFj (aCR (SL m (hT k))) pl (xP _) fun x hx=>dz fun z=>c ⟨x,uH hx,z⟩
 have:=(aDm h hm).1
 omega
def Rch (mask:Nat) (pl:List Nat) (h:Int) (j:Nat):Prop:=∃ L1 L2,SL mask h=L1++j :: L2/\∀ x∈L1,x∈pl
theorem Rch.mono {mask:Nat}{pl pl':List Nat}{h:Int}{j:Nat}(r:Rch mask pl h j)(s:∀ x∈pl,x∈pl'):Rch mask pl' h j:=
 let ⟨L1,L2,e,q⟩:=r;⟨L1,L2,e,fun x hx=>s x (q x hx)⟩
abbrev Us:=List (List Int × Addr)
structure Ptb (mask:Nat)(pl:List Nat)(us:Us):Prop where
 m:M3 mask
 len:pl.length=us.length
 ris:pl.Pairwise (· < ·)
 nd:(us.map (·.1)).Nodup
 mem:∀ u∈us,u.1∈K28
 rch:∀ (i:Nat) (u:List Int × Addr) (j:Nat),us[i]?=some u->pl[i]?=some j->Rch mask pl (hT u.1) j
def esO (us:Us):Array (Int × Value):=(us.map fun u=>(hT u.1,Value.ref u.2)).toArray
section
variable {t:SetTable}{pl:List Nat}{us:Us}{k:List Int}
theorem aBi (us:Us){i:Nat}{u:List Int × Addr}(h:us[i]?=some u):((esO us)[i]?.map (·.1)).getD 0=hT u.1:=by
 unfold esO
 rw [jg,az,h]
 rfl
theorem aFB (hs:Nat->Int)(hh:∀ (i:Nat) (u:List Int × Addr),us[i]?=some u->hs i=hT u.1)(P:Ptb t.mask pl us)(hp:t.place=pl.toArray)(hd:t.dummies=#[])(hl:pl.length<moM t.mask)(hk:k∈us.map (·.1)) :
  ∃ j i nx u,us[i]?=some u/\u.1=k/\t.probe hs (hT k) (t.probeStart (hT k))=some (.candidate j i nx):=by
 obtain ⟨u,hu,rfl⟩:=cy.mp hk
 obtain ⟨i,hi⟩:=gi.mp hu
 have hil:i<pl.length:=by rw [P.len];exact (ai.mp hi).1
 have hj:=ah hil
 obtain ⟨M1,M2,eS,hM⟩:=P.rch i u _ hi hj
 have fu:Fut t.mask (t.probeStart (hT u.1)) (SL t.mask (hT u.1)):=uP _ _ _
 unfold se
 rcases aCp hp hd P.ris hs (hT u.1) _ _ _ fu rfl (aDm (P.mem u hu) P.m).2.1 (xX (P.mem u hu) P.m hl) with ⟨L1,x,L2,e,q1,q2,q3,q4⟩ | ⟨L1,x,L2,i',nx,e,q1,q2,q3,q4⟩
 ·exfalso
  have hin:pl[i]∈L1:=by
   rw [eS] at e
   rcases List.append_eq_append_iff.mp e with ⟨N,e1,e2⟩ | ⟨N,e1,e2⟩
   ·cases N with
    | nil=>
     simp at e2
     exact absurd (e2.1 ▸ fb hil) q2
    | cons y N=>
     injection e2 with e3 e4
     rw [e1,e3]
     exact dg _ (cg ..)
   ·cases N with
    | nil=>
     simp at e2
     exact absurd (e2.1.symm ▸ fb hil) q2
    | cons y N=>
     injection e2 with e3 e4
     have:x∈M1:=by rw [e1,e3];exact dg _ (cg ..)
     exact absurd (hM x this) q2
  exact q3 i _ hin hj (hh i u hi)
 ·have hil':i'<us.length:=by rw [<- P.len];exact (ai.mp q2).1
  have hi':=ah hil'
  refine ⟨x,i',nx,us[i'],hi',?_,q4⟩
  rw [hh _ _ hi'] at q3
  exact aEr (P.mem _ (fb hil')) (P.mem u hu) q3
theorem aDq (hs:Nat->Int)(hh:∀ (i:Nat) (u:List Int × Addr),us[i]?=some u->hs i=hT u.1)(P:Ptb t.mask pl us)(hp:t.place=pl.toArray)(hd:t.dummies=#[])(hl:pl.length<moM t.mask)(hK:k∈K28)(hk:k∉us.map (·.1)) :
  ∃ j,j∉pl/\Rch t.mask pl (hT k) j/\t.probe hs (hT k) (t.probeStart (hT k))=some (.empty j none):=by
 have fu:Fut t.mask (t.probeStart (hT k)) (SL t.mask (hT k)):=uP _ _ _
 unfold se
 rcases aCp hp hd P.ris hs (hT k) _ _ _ fu rfl (aDm hK P.m).2.1 (xX hK P.m hl) with ⟨L1,x,L2,e,q1,q2,q3,q4⟩ | ⟨L1,x,L2,i',nx,e,q1,q2,q3,q4⟩
 ·exact ⟨x,q2,⟨L1,L2,e,q1⟩,q4⟩
 ·exfalso
  have hil':i'<us.length:=by rw [<- P.len];exact (ai.mp q2).1
  have hi':=ah hil'
  rw [hh _ _ hi'] at q3
  exact hk (cy.mpr ⟨_,fb hil',aEr (P.mem _ (fb hil')) hK q3⟩)
end
def rJ {α:Type} (l:List α) (p:Nat) (x:α):List α:=l.take p++x :: l.drop p
theorem pW {α:Type}(l:List α)(p:Nat)(x:α):(rJ l p x).Perm (x :: l):=by
 unfold rJ
 refine List.perm_middle.trans ?_
 rw [yz]
theorem uJ {α:Type}{l:List α}{p i:Nat}{x y:α}(hp:p<=l.length)(h:(rJ l p x)[i]?=some y):(i<p/\l[i]?=some y)\/(i=p/\y=x)\/(p<i/\l[i - 1]?=some y):=by
 unfold rJ at h
 have lt:(l.take p).length=p:=by rw [e8];omega
 rcases rl i p with c | c | c
 ·rw [dk (by omega),ly c] at h
  exact .inl ⟨c,h⟩
 ·rw [dw (by omega),lt,c,sr] at h
  exact .inr (.inl ⟨c,(cu h).symm⟩)
 ·rw [dw (by omega),lt] at h
  obtain ⟨m,hm⟩:∃ m,i - p=m+1:=⟨i - p - 1,by omega⟩
  rw [hm,List.getElem?_cons_succ,ky] at h
  exact .inr (.inr ⟨c,by rw [show i - 1=p+m by omega];exact h⟩)
theorem aDx {pl:List Nat}(ris:pl.Pairwise (· < ·)){j:Nat}(hj:j∉pl):(rJ pl (cf pl.toArray j) j).Pairwise (· < ·):=by
 obtain ⟨b1,b2,b3⟩:=iA ris j
 have f1:∀ x∈pl.take (cf pl.toArray j),x<j:=fun x hx=>by
  obtain ⟨i,hi⟩:=gi.mp hx
  have hl:=(ai.mp hi).1
  rw [e8] at hl
  rw [ly (by omega)] at hi
  exact b2 i x (by omega) hi
 have f2:∀ x∈pl.drop (cf pl.toArray j),j<x:=fun x hx=>by
  obtain ⟨i,hi⟩:=gi.mp hx
  rw [ky] at hi
  have:=b3 _ x (ni _ _) hi
  have:x≠j:=fun e=>hj (e ▸ aw hi)
  omega
 unfold rJ
 refine zk.mpr ⟨ris.take,vm.mpr ⟨f2,ris.drop⟩,fun x hx y hy=>?_⟩
 have:=f1 x hx
 rcases bj.mp hy with rfl | hy
 ·exact this
 ·have:=f2 y hy;omega
section
variable {mask:Nat}{pl:List Nat}{us:Us}{k:List Int}
theorem Ptb.put (P:Ptb mask pl us){k:List Int}{a:Addr}(hK:k∈K28)(hk:k∉us.map (·.1)){j:Nat}(hj:j∉pl)(hr:Rch mask pl (hT k) j):Ptb mask (rJ pl (cf pl.toArray j) j) (rJ us (cf pl.toArray j) (k,a)):=by
 obtain ⟨b1,_,_⟩:=iA P.ris j
 have pp:=pW pl (cf pl.toArray j) j
 have pu:=pW us (cf pl.toArray j) (k,a)
 have sub:∀ x∈pl,x∈rJ pl (cf pl.toArray j) j:=fun x hx=>pp.mem_iff.mpr (av _ hx)
 refine ⟨P.m,by rw [pp.length_eq,pu.length_eq,cw,cw,P.len],aDx P.ris hj,?_,fun u hu=>?_,fun i u x hu hx=>?_⟩
 ·refine (pu.map (·.1)).nodup_iff.mpr ?_
  exact gh.mpr ⟨hk,P.nd⟩
 ·rcases bj.mp (pu.mem_iff.mp hu) with rfl | hu
  ·exact hK
  ·exact P.mem u hu
 ·rcases uJ (by rw [<- P.len];exact b1) hu with ⟨c,h1⟩ | ⟨c,h1⟩ | ⟨c,h1⟩
  ·rcases uJ b1 hx with ⟨d,h2⟩ | ⟨d,h2⟩ | ⟨d,h2⟩
   ·exact (P.rch i u x h1 h2).mono sub
   ·omega
   ·omega
  ·rcases uJ b1 hx with ⟨d,h2⟩ | ⟨d,h2⟩ | ⟨d,h2⟩
   ·omega
   ·rw [h1,h2];exact hr.mono sub
   ·omega
  ·rcases uJ b1 hx with ⟨d,h2⟩ | ⟨d,h2⟩ | ⟨d,h2⟩
   ·omega
   ·omega
   ·exact (P.rch (i - 1) u x h1 h2).mono sub
theorem aFw (us:Us)(p:Nat)(k:List Int)(a:Addr):wy (esO us) p (hT k, .ref a)=esO (rJ us p (k,a)):=by
 apply tw.mp
 rw [qi]
 unfold esO rJ
 simp [xh,uf]
theorem aHb (pl:List Nat)(p j:Nat):wy pl.toArray p j=(rJ pl p j).toArray:=by
 apply tw.mp
 rw [qi]
 unfold rJ
 simp
structure Ow (mask:Nat)(owner:Array (Option Nat))(ps:List Nat):Prop where
 sz:owner.size=mask+1
 at_:∀ i j,ps[i]?=some j↔owner.getD j none=some i
theorem Ow.free {owner:Array (Option Nat)}{ps:List Nat}(O:Ow mask owner ps){x:Nat}(hx:x<=mask):(owner.getD x (some 0)).isNone=true↔x∉ps:=by
 have e:owner.getD x (some 0)=owner.getD x none:=by
  have:x<owner.size:=by rw [O.sz];omega
  rw [dh,dh,d9 this];rfl
 rw [e]
 constructor
 ·intro h z
  obtain ⟨i,hi⟩:=gi.mp z
  rw [(O.at_ i x).mp hi] at h
  cases h
 ·intro h
  cases ho:owner.getD x none with
  | none=>rfl
  | some i=>exact absurd (aw ((O.at_ i x).mpr ho)) h
theorem aAV {owner:Array (Option Nat)}{ps:List Nat}(O:Ow mask owner ps):∀ (R F i pt:Nat),R<=F->(∀ x∈aDk mask R i pt,x<=mask)->(∃ x∈aDk mask R i pt,x∉ps)->∃ L1 x L2,aDk mask R i pt=L1++x :: L2/\(∀ y∈L1,y∈ps)/\x∉ps/\nu mask owner F i pt=some x
 | 0,F,i,pt,_,_,⟨x,hx,_⟩=>by cases hx
 | R+1,0,i,pt,h,_,_=>by omega
 | R+1,F+1,i,pt,h,hm,⟨x,hx,hn⟩=>by
  rw [nu]
  have hm1:∀ x∈rnL mask i,x<=mask:=fun x hx=>hm x (d5 _ hx)
  cases hf:(ar (je mask i+1 - i)).find? (fun k=>(owner.getD (i+k) (some 0)).isNone) with
  | some k=>
   dsimp only
   obtain ⟨q1,as,bs,q2,q3⟩:=List.find?_eq_some_iff_append.mp hf
   have er:rnL mask i=as.map (i + ·)++(i+k) :: bs.map (i + ·):=by unfold rnL;rw [q2,cq,df]
   refine ⟨as.map (i + ·),i+k,bs.map (i + ·)++aDk mask R (gj mask i pt).1 (gj mask i pt).2,?_,fun y hy=>?_,?_,rfl⟩
   ·show rnL mask i++_=_
    rw [er,gg];rfl
   ·obtain ⟨m,hm',rfl⟩:=cy.mp hy
    have:=q3 m hm'
    refine dz fun c=>?_
    have z:=(O.free (hm1 _ (by rw [er];exact d5 _ (qe hm')))).mpr c
    rw [z] at this
    cases this
   ·exact (O.free (hm1 _ (by rw [er];exact dg _ (cg ..)))).mp q1
  | none=>
   dsimp only
   have all:∀ y∈rnL mask i,y∈ps:=fun y hy=>by
    have hy':=hm1 y hy
    unfold rnL at hy
    obtain ⟨m,hm',rfl⟩:=cy.mp hy
    refine dz fun c=>?_
    have:=List.find?_eq_none.mp hf m hm'
    exact this ((O.free hy').mpr c)
   have hx:x∈aDk mask R (gj mask i pt).1 (gj mask i pt).2:=by
    rcases de.mp hx with hx | hx
    ·exact absurd (all x hx) hn
    ·exact hx
   obtain ⟨L1,y,L2,e,q1,q2,q3⟩:=aAV O R F _ _ (by omega) (fun x hx=>hm x (dg _ hx)) ⟨x,hx,hn⟩
   refine ⟨rnL mask i++L1,y,L2,by show rnL mask i++_=_;rw [e,gg],fun z hz=>?_,q2,q3⟩
   rcases de.mp hz with hz | hz
   ·exact all z hz
   ·exact q1 z hz
theorem Ow.step {owner:Array (Option Nat)}{ps:List Nat}(O:Ow mask owner ps){j:Nat}(hj:j∉ps)(hm:j<=mask):Ow mask (owner.setIfInBounds j (some ps.length)) (ps++[j]):=by
 refine ⟨by rw [Array.size_setIfInBounds,O.sz],fun i x=>?_⟩
 have hjs:j<owner.size:=by rw [O.sz];omega
 have e:(owner.setIfInBounds j (some ps.length)).getD x none=if j=x then some ps.length else owner.getD x none:=by
  rw [dh,dh,Array.getElem?_setIfInBounds]
  by_cases c:j=x
  ·subst c;rw [if_pos rfl,if_pos hjs,if_pos rfl];rfl
  ·rw [if_neg c,if_neg c]
 rw [e]
 by_cases c:j=x
 ·subst c
  rw [if_pos rfl]
  constructor
  ·intro h
   rcases Nat.lt_or_ge i ps.length with d | d
   ·rw [dk d] at h
    exact absurd (aw h) hj
   ·have hl:=(ai.mp h).1
    rw [au] at hl
    have:i=ps.length:=by simp at hl;omega
    rw [this]
  ·intro h
   cases h
   rw [dw (ay _),sr];rfl
 ·rw [if_neg c,<- O.at_]
  constructor
  ·intro h
   rcases Nat.lt_or_ge i ps.length with d | d
   ·rwa [dk d] at h
   ·rw [dw d] at h
    rcases bq.mp (aw h) with rfl
    exact absurd rfl c
  ·intro h
   rw [dk (ai.mp h).1];exact h
end
section
variable {mask:Nat}{pl:List Nat}{us:Us}
def aFY (mask:Nat) (acc:Option (Array (Option Nat) × Nat)) (h:Int):Option (Array (Option Nat) × Nat):=do
 let (owner,k) <- acc
 let j <- nu mask owner (nr mask) (mx h % (mask+1)) (mx h)
 pure (owner.setIfInBounds j (some k),k+1)
theorem aIr (mask:Nat):nR mask<=nr mask:=by
 unfold nR nr
 split
 ·omega
 ·split <;> omega
theorem aCN (hm:M3 mask):∀ (vs:Us) (owner:Array (Option Nat)) (ps:List Nat),Ow mask owner ps->(∀ u∈vs,u.1∈K28)->ps.length+vs.length<=moM mask ->
  ∃ owner' qs,(vs.map fun u=>hT u.1).foldl (aFY mask) (some (owner,ps.length))=some (owner',ps.length+vs.length)/\Ow mask owner' (ps++qs)/\qs.length=vs.length/\∀ (i:Nat) (u:List Int × Addr) (j:Nat),vs[i]?=some u->qs[i]?=some j->Rch mask (ps++qs) (hT u.1) j
 | [],owner,ps,O,_,_=>⟨owner,[],rfl,by rw [lx];exact O,rfl,fun i u j h=>by cases h⟩
 | u :: vs,owner,ps,O,hK,hl=>by
  rw [cw] at hl
  have hu:=hK u (cg ..)
  have sl:=aDm hu hm
  obtain ⟨L1,x,L2,e,q1,q2,q3⟩:=aAV O (nR mask) (nr mask) (mx (hT u.1) % (mask+1)) (mx (hT u.1)) (aIr mask) sl.2.2 (xX hu hm (by omega))
  have hx:x<=mask:=sl.2.2 x (by show x∈aDk mask _ _ _;rw [e];exact dg _ (cg ..))
  have O':=O.step q2 hx
  have ln:(ps++[x]).length=ps.length+1:=by rw [au];rfl
  obtain ⟨ow,qs,r1,r2,r3,r4⟩:=aCN hm vs _ (ps++[x]) O' (fun v hv=>hK v (av _ hv)) (by rw [ln];omega)
  have es:ps++[x]++qs=ps++x :: qs:=by rw [gg];rfl
  rw [es] at r2 r4
  refine ⟨ow,x :: qs,?_,r2,by rw [cw,r3];rfl,fun i v j hv hj=>?_⟩
  ·rw [df,List.foldl_cons]
   have:aFY mask (some (owner,ps.length)) (hT u.1)=some (owner.setIfInBounds x (some ps.length),(ps++[x]).length):=by
    unfold aFY
    rw [ln]
    show (nu mask owner (nr mask) (mx (hT u.1) % (mask+1)) (mx (hT u.1)) >>= _)=_
    rw [q3]
    rfl
   rw [this,r1,ln,cw]
   congr 2
   omega
  ·cases i with
   | zero=>
    cases hv
    cases hj
    exact ⟨L1,L2,e,fun y hy=>d5 _ (q1 y hy)⟩
   | succ i=>exact r4 i v j hv hj
def nG (mask:Nat) (owner:Array (Option Nat)):List (Nat × Nat):=(ar (mask+1)).filterMap fun j=>(owner.getD j none).map (j,·)
theorem aDr {owner:Array (Option Nat)}{ps:List Nat}(O:Ow mask owner ps){j i:Nat}:(j,i)∈nG mask owner↔ps[i]?=some j:=by
 unfold nG
 rw [ql,O.at_]
 constructor
 ·rintro ⟨x,_,h⟩
  obtain ⟨y,hy,e⟩:=i9.mp h
  cases e
  exact hy
 ·intro h
  refine ⟨j,cp.mpr ?_,by rw [h];rfl⟩
  refine dz fun c=>?_
  rw [dh,jb (by rw [O.sz];omega)] at h
  cases h
theorem zU (owner:Array (Option Nat)):(nG mask owner).Pairwise fun a b=>a.1<b.1:=by
 unfold nG
 refine List.Pairwise.filterMap _ (fun a b h x hx y hy=>?_) List.pairwise_lt_range
 obtain ⟨_,_,rfl⟩:=i9.mp hx
 obtain ⟨_,_,rfl⟩:=i9.mp hy
 exact h
theorem aEo {α β:Type}{f:α->Option β}{g:α->β}:∀ {l:List α},(∀ x∈l,f x=some (g x))->l.filterMap f=l.map g
 | [],_=>rfl
 | x :: l,h=>by rw [List.filterMap_cons_some (h x (cg ..)),df,aEo fun y hy=>h y (av _ hy)]
theorem aBH (P:Ptb mask pl us)(t:SetTable){wanted m':Nat}(hw:n4 wanted - 1=m')(hm:M3 m')(hl:us.length<=moM m'):∃ pl' us' ord,t.relaid ((esO us).map (·.1)) wanted=some ({ mask:=m',place:=pl'.toArray,dummies:=#[],finger:=t.finger,led:=t.led,moves:=t.movedTo m',plain:=t.plain },ord)/\ord.filterMap ((esO us)[·]?)=esO us'/\Ptb m' pl' us'/\us'.Perm us:=by
 have O0:Ow m' (u7 (m'+1) none) []:=by
  refine ⟨by simp,fun i j=>?_⟩
  constructor
  ·intro h
   simp at h
  ·intro h
   rw [dh] at h
   by_cases c:j<m'+1
   ·rw [d9 (by simpa using c)] at h
    simp at h
   ·rw [jb (by simpa using c)] at h
    cases h
 obtain ⟨ow,ps,r1,O,r3,r4⟩:=aCN hm us _ [] O0 P.mem (by rw [n9];omega)
 rw [ur] at O r4
 have ml:=fun j i=>aDr O (j:=j) (i:=i)
 have sn:∀ p∈nG m' ow,p.2<us.length:=fun p hp=>by
  have:=(ml p.1 p.2).mp hp
  rw [<- r3]
  exact (ai.mp this).1
 have ond:((nG m' ow).map (·.2)).Nodup:=by
  rw [ic,j6]
  refine List.Pairwise.imp_of_mem (fun {a b} ha hb hab e=>?_) (zU ow)
  have h1:=(ml a.1 a.2).mp ha
  have h2:=(ml b.1 b.2).mp hb
  rw [e] at h1
  rw [h1] at h2
  have:=cu h2
  omega
 have operm:((nG m' ow).map (·.2)).Perm (ar us.length):=by
  refine (kg ond ju).mpr fun i=>?_
  rw [cy,cp]
  constructor
  ·rintro ⟨p,hp,rfl⟩
   exact sn p hp
  ·intro hi
   have:=ah (show i<ps.length by omega)
   exact ⟨(ps[i],i),(ml _ _).mpr this,rfl⟩
 have em:((nG m' ow).map (·.2)).filterMap (us[·]?)=(nG m' ow).map fun p=>us.getD p.2 ([],0):=by
  rw [List.filterMap_map]
  refine aEo fun p hp=>?_
  show us[p.2]?=_
  rw [aj,ah (sn p hp)]
  rfl
 have eu:(((nG m' ow).map (·.2)).filterMap (us[·]?)).Perm us:=by
  have:=operm.filterMap (us[·]?)
  rw [List.filterMap_getElem?_range_length us] at this
  exact this
 refine ⟨(nG m' ow).map (·.1),((nG m' ow).map (·.2)).filterMap (us[·]?),((nG m' ow).map (·.2)).toArray,?_,?_,?_,eu⟩
 ·unfold SetTable.relaid SetTable.laid SetTable.layClean
  rw [hw]
  have eh:((esO us).map (·.1))=(us.map fun u=>hT u.1).toArray:=by
   apply tw.mp
   unfold esO
   simp
  have ef:((us.map fun u=>hT u.1).toArray.foldl (init:=some (u7 (m'+1) none,0)) (aFY m')).map (·.1)=some ow:=by
   rw [<- Array.foldl_toList]
   show ((us.map fun u=>hT u.1).foldl (aFY m') (some (u7 (m'+1) none,0))).map _=_
   have:=r1
   rw [n9] at this
   rw [this]
   rfl
  rw [eh]
  show ((((us.map fun u=>hT u.1).toArray.foldl (init:=some (u7 (m'+1) none,0)) (aFY m')).map (·.1)) >>= fun owner=>_)=_
  rw [ef]
  rfl
 ·apply tw.mp
  rw [Array.toList_filterMap]
  unfold esO
  rw [List.map_filterMap]
  congr 1
  funext i
  rw [jg,az]
 ·refine ⟨hm,by rw [eu.length_eq,af,<- operm.length_eq.trans cm,af],?_,(eu.map _).nodup_iff.mpr P.nd,fun u hu=>P.mem u (eu.mem_iff.mp hu),fun a u j hu hj=>?_⟩
  ·rw [j6];exact zU ow
  ·rw [em,az] at hu
   rw [az] at hj
   obtain ⟨p,hp,rfl⟩:=i9.mp hj
   rw [hp] at hu
   have hpm:=aw hp
   have hi:=sn p hpm
   have eu':us[p.2]?=some u:=by
    have:us.getD p.2 ([],0)=u:=cu hu
    rw [aj,ah hi] at this
    rw [ah hi,<- this];rfl
   refine (r4 p.2 u p.1 eu' ((ml _ _).mp hpm)).mono fun x hx=>?_
   obtain ⟨i,hi⟩:=gi.mp hx
   exact cy.mpr ⟨(x,i),(ml _ _).mpr hi,rfl⟩
end
def spT (led:Bool) (mask:Nat) (pl:List Nat) (mv:Nat):SetTable:={ mask:=mask,place:=pl.toArray,dummies:=#[],finger:=0,led:=led,moves:=mv,plain:=true }
abbrev spO (w:World) (us:Us) (ep mask:Nat) (pl:List Nat) (mv:Nat):Obj:={ cls := .type "set",dict:=none,data := .set (esO us) ep (spT (!byT w) mask pl mv) }
def aAe (w:World) (a:Addr) (us:Us) (h:Heap):Prop:=∃ ep mask pl mv,h.get? a=some (spO w us ep mask pl mv)/\Ptb mask pl us/\us.length*5<mask*3
theorem Ptb.few {mask:Nat}{pl:List Nat}{us:Us}(P:Ptb mask pl us):us.length<=28:=by
 have:=aFj (us.map (·.1)) K28 P.nd fun k hk=>by
  obtain ⟨u,hu,rfl⟩:=cy.mp hk
  exact P.mem u hu
 rw [af] at this
 exact this
theorem iJ {mask:Nat}{pl:List Nat}{us:Us}(P:Ptb mask pl us)(h:us.length*5<mask*3+5)(led:Bool)(mv:Nat):(spT led mask pl mv).fits (esO us).size=true:=by
 have l:=P.len
 unfold spT SetTable.fits SetTable.fill esO
 simp only [aq,af,n9,Nat.add_zero,ff,beq_iff_eq,decide_eq_true_eq]
 refine ⟨l,?_⟩
 rcases P.m with rfl | rfl | rfl <;> omega
theorem Ptb.room {mask:Nat}{pl:List Nat}{us:Us}(P:Ptb mask pl us)(h:us.length*5<mask*3):pl.length<moM mask:=by
 have:=P.few
 rw [P.len]
 rcases P.m with rfl | rfl | rfl
 ·show us.length<5;omega
 ·show us.length<19;omega
 ·show us.length<30;omega
section
variable {prog:Program}{w:World}{A:Around}{E:Value->Shared->Prop}{s:Shared}
theorem xB {k:List Int}{b:Addr}{m:Nat}{Q:Bool->Shared->Prop}(hk:ja (gq prog w) s.heap k b)(h:Q false s):wpAny (model prog w) A (rm (m+1) (.ref b)) Q E s:=by
 have hT:=hk.typeIs
 obtain ⟨o,items,n,ho,_,hd,hi⟩:=hk
 unfold rm
 refine aa (sg hT ?_)
 dsimp only
 refine aa (ak ?_)
 simp only [jf,dm,if_false]
 refine aa (jz ho hd ?_)
 dsimp only
 refine aa ?_
 rw [<- n0]
 refine p0 _ (fun rest r s'=>r.1=none/\s'=s/\∃ ks:List Int,PySem.ItemsAre (gq prog w) ks rest) _ ?_ ?_ _ _ ⟨rfl,rfl,_,hi⟩
 ·rintro v rest r s' ⟨hr,rfl,ks,hall⟩
  cases hall with
  | cons hv hr'=>
   obtain ⟨t,rfl⟩:=wd hv
   have e:∀ z:Int,rm m (.int z t)=pure false:=fun z=>by unfold rm;cases m <;> rfl
   rw [e]
   refine aa (ak ?_)
   simp only [dm,if_false]
   exact ak ⟨rfl,rfl,_,hr'⟩
 ·rintro ⟨r1,r2⟩ s' ⟨hr,rfl,_⟩
  simp only at hr
  subst hr
  exact ak h
theorem aAQ {k:List Int}{b:Addr}{m:Nat}{Q:Bool->Shared->Prop}(hk:ja (gq prog w) s.heap k b)(h:Q true s):wpAny (model prog w) A (Ak (m+1) (.ref b)) Q E s:=by
 have hT:=hk.typeIs
 obtain ⟨o,items,n,ho,_,hd,hi⟩:=hk
 unfold Ak
 refine aa (mf hT o5.lookup ?_)
 dsimp only
 refine aa (jz ho hd ?_)
 refine aa ?_
 show wpAny _ _ (forIn items _ _) _ _ s
 rw [<- n0]
 refine p0 _ (fun rest r s'=>r.1=none/\s'=s/\∃ ks:List Int,PySem.ItemsAre (gq prog w) ks rest) _ ?_ ?_ _ _ ⟨rfl,rfl,_,hi⟩
 ·rintro v rest r s' ⟨hr,rfl,ks,hall⟩
  cases hall with
  | cons hv hr'=>
   obtain ⟨t,rfl⟩:=wd hv
   have e:∀ z:Int,Ak m (.int z t)=pure true:=fun z=>by unfold Ak;cases m <;> rfl
   rw [e]
   refine aa (ak ?_)
   simp only [jf,dm,if_false]
   exact ak ⟨rfl,rfl,_,hr'⟩
 ·rintro ⟨r1,r2⟩ s' ⟨hr,rfl,_⟩
  simp only at hr
  subst hr
  exact ak h
theorem aGm {k:List Int}{b:Addr}{Q:Bool->Shared->Prop}(hk:ja (gq prog w) s.heap k b)(ys:List Value)(hy:∀ y∈ys,∃ k' b',y = .ref b'/\ja (gq prog w) s.heap k' b')(h:Q false s):wpAny (model prog w) A (searchCouldBeSeen (.ref b) ys) Q E s:=by
 unfold searchCouldBeSeen
 refine aa ?_
 refine p0 _ (fun rest r s'=>r.1=none/\s'=s/\∀ y∈rest,∃ k' b',y = .ref b'/\ja (gq prog w) s.heap k' b') _ ?_ ?_ _ _ ⟨rfl,rfl,hy⟩
 ·rintro v rest r s' ⟨hr,rfl,hall⟩
  obtain ⟨k',b',rfl,hk'⟩:=hall v cg
  have hall':∀ y∈rest,∃ k' b',y = .ref b'/\ja (gq prog w) s'.heap k' b':=fun y hy=>hall y (av _ hy)
  dsimp only
  split
  ·exact ak ⟨rfl,rfl,hall'⟩
  ·refine aa (y8 hk ?_)
   simp only [jf,dm,if_false]
   refine aa (y8 hk' ?_)
   simp only [jf,dm,if_false]
   refine aa (xB hk ?_)
   simp only [dm,if_false]
   refine aa (xB hk' ?_)
   simp only [dm,if_false]
   exact ak ⟨rfl,rfl,hall'⟩
 ·rintro ⟨r1,r2⟩ s' ⟨hr,rfl,_⟩
  simp only at hr
  subst hr
  exact ak h
end
section
variable {prog:Program}{w:World}{A:Around}{E:Value->Shared->Prop}{s:Shared}{a b:Addr}{us:Us}{k:List Int}{ep mask mv:Nat}{pl:List Nat}
theorem aFM (P:Ptb mask pl us)(led:Bool):(spT led mask pl mv).gaveWay=false:=by
 rcases P.m with rfl | rfl | rfl
 ·show (7 % 2 == 0)=false;decide
 ·show (31 % 2 == 0)=false;decide
 ·show (127 % 2 == 0)=false;decide
theorem aBo {Q:SetFound->Shared->Prop}(hu:A.units<cLine)(ho:s.heap.get? a=some (spO w us ep mask pl mv))(P:Ptb mask pl us)(hf:us.length*5<mask*3)(hB:∀ u∈us,ja (gq prog w) s.heap u.1 u.2)(hK:k∈K28)(hk:ja (gq prog w) s.heap k b)
  (q1:k∈us.map (·.1)->Q (.there none) s) (q2:k∉us.map (·.1)->∀ j,j∉pl->Rch mask pl (hT k) j->Q (.free j false) s):wpAny (model prog w) A (setSearch a (.ref b) (hT k) (adding:=true)) Q E s:=by
 have fits:=iJ P (by omega) (!byT w) mv
 unfold setSearch setSearchFrom
 refine aa (jh ho rfl fits ?_)
 dsimp only
 rw [if_neg (by rw [aFM P];exact bu)]
 by_cases hm:k∈us.map (·.1)
 ·obtain ⟨j,i,nx,u,hi,ek,e⟩:=aFB (t:=spT (!byT w) mask pl mv) (fun i=>((esO us)[i]?.map (·.1)).getD 0) (fun i u h=>aBi us h) P rfl rfl (P.room hf) hm
  split
  ·rename_i met hmet
   have em:met = .candidate j i nx:=cu (hmet.symm.trans e)
   subst em
   dsimp only
   have hu':=aw hi
   have stored:∀ y∈(((esO us).filter (·.1 == hT k)).toList.map (·.2)),∃ k' b',y=Value.ref b'/\ja (gq prog w) s.heap k' b':=fun y hy=>by
    obtain ⟨z,hz,rfl⟩:=cy.mp hy
    rw [Array.toList_filter] at hz
    have hz:=(j7.mp hz).1
    unfold esO at hz
    obtain ⟨v,hv,rfl⟩:=cy.mp hz
    exact ⟨v.1,v.2,rfl,hB v hv⟩
   have ei:(esO us)[i]?=some (hT u.1, .ref u.2):=by unfold esO;rw [jg,az,hi];rfl
   rw [ei]
   dsimp only
   by_cases c:(!(spT (!byT w) mask pl mv).led)=true
   ·rw [if_pos c]
    refine aa (aGm hk _ stored ?_)
    rw [if_neg bu]
    refine aa (fj (vt hu (hB u hu') hk ?_))
    refine aa (jh ho rfl fits ?_)
    dsimp only
    rw [if_pos (by simp [ek])]
    exact ak (q1 hm)
   ·rw [if_neg c]
    refine aa (fj (vt hu (hB u hu') hk ?_))
    refine aa (jh ho rfl fits ?_)
    dsimp only
    rw [if_pos (by simp [ek])]
    exact ak (q1 hm)
  ·rename_i hno
   exact absurd e (hno _)
 ·obtain ⟨j,hj,hr,e⟩:=aDq (t:=spT (!byT w) mask pl mv) (fun i=>((esO us)[i]?.map (·.1)).getD 0) (fun i u h=>aBi us h) P rfl rfl (P.room hf) hK hm
  split
  ·rename_i met hmet
   have em:met = .empty j none:=cu (hmet.symm.trans e)
   subst em
   dsimp only
   exact ak (q2 hm j hj hr)
  ·rename_i hno
   exact absurd e (hno _)
theorem aGV (led:Bool)(j:Nat):(spT led mask pl mv).put j=(spT led mask (rJ pl (cf pl.toArray j) j) mv,cf pl.toArray j):=by
 unfold SetTable.put spT
 have e2:yy #[] j=false:=by
  unfold yy
  rw [<- p6]
  intro z
  have:=wj z
  simp at this
 dsimp only
 rw [e2,aHb]
 rfl
theorem aEU (led:Bool):(spT led mask pl mv).tooFull=decide (pl.length*5≥mask*3):=by
 unfold SetTable.tooFull SetTable.fill spT
 simp
theorem aCZ {us':Us}{m' wanted:Nat}{Q:Unit->Shared->Prop}(ho:s.heap.get? a=some (spO w us ep mask pl mv))(P:Ptb mask pl us)(hf:us.length*5<mask*3+5)(hw:n4 wanted - 1=m')(hz:¬ n4 wanted > ba)(hm:M3 m')(hl:us.length<=moM m')
  (q:∀ h' us' ep' pl' mv',iu a s.heap h'->h'.get? a=some (spO w us' ep' m' pl' mv')->Ptb m' pl' us'->us'.Perm us->Q () { s with heap:=h' }):wpAny (model prog w) A (setRelay a wanted) Q E s:=by
 have fits:=iJ P hf (!byT w) mv
 obtain ⟨pl',us',ord,e1,e2,P',pm⟩:=aBH P (spT (!byT w) mask pl mv) hw hm hl
 unfold setRelay
 refine aa (jh ho rfl fits ?_)
 dsimp only
 rw [if_neg hz,e1]
 refine aa ?_
 have sz:(esO us').size=(esO us).size:=by unfold esO;simp [pm.length_eq]
 show wpAny _ _ (if ((ord.filterMap ((esO us)[·]?)).size != (esO us).size)=true then _ else pure (ord.filterMap ((esO us)[·]?),_)) _ _ _
 rw [e2,if_neg (by simp [sz])]
 refine ak ?_
 have lz:(esO us').size<=ba:=by
  have:=P'.few
  unfold esO
  rw [aq,af,j9]
  omega
 refine wpAny_storeSet_of ho rfl ?_ lz
 exact q _ us' _ pl' _ (jn _ a _) (aCA (ks:=[]) ho rfl) P' pm
theorem aGn {Q:Bool->Shared->Prop}(hu:A.units<cLine)(hS:aAe w a us s.heap)(hB:∀ u∈us,ja (gq prog w) s.heap u.1 u.2)(hK:k∈K28)(hk:ja (gq prog w) s.heap k b)
  (q:∀ h' us' r,iu a s.heap h'->aAe w a us' h'->(k∈us.map (·.1)/\us'.Perm us\/k∉us.map (·.1)/\us'.Perm ((k,b) :: us))->Q r { s with heap:=h' }):wpAny (model prog w) A (setAddHashed a (.ref b) (hT k)) Q E s:=by
 obtain ⟨ep,mask,pl,mv,ho,P,hf⟩:=hS
 have fits:=iJ P (by omega) (!byT w) mv
 unfold setAddHashed setAddHashedIn
 refine fj (aa (jh ho rfl fits ?_))
 dsimp only
 rw [if_neg (by unfold byScan;simp [Value.scannable])]
 refine aa (aBo hu ho P hf hB hK hk (fun hm=>?_) fun hm j hj hr=>?_)
 ·dsimp only
  refine ak ?_
  have e:s={ s with heap:=s.heap }:=by cases s;rfl
  rw [e]
  exact q s.heap us _ (Heap.SameBut.refl a s.heap) ⟨ep,mask,pl,mv,ho,P,hf⟩ (.inl ⟨hm, .refl _⟩)
 ·dsimp only
  refine aa (jh ho rfl fits ?_)
  dsimp only
  rw [aGV]
  dsimp only
  rw [if_pos (show (spT (!byT w) mask (rJ pl (cf pl.toArray j) j) mv).plain=true from rfl)]
  refine aa (aAQ hk ?_)
  rw [if_pos rfl,aFw]
  have P1:=P.put (a:=b) hK hm hj hr
  have pm:=pW us (cf pl.toArray j) (k,b)
  have ln:(rJ us (cf pl.toArray j) (k,b)).length=us.length+1:=by rw [pm.length_eq,cw]
  have lp:(rJ pl (cf pl.toArray j) j).length=us.length+1:=by rw [P1.len,ln]
  have few:=P1.few
  have lz:(esO (rJ us (cf pl.toArray j) (k,b))).size<=ba:=by
   unfold esO
   rw [aq,af,j9]
   omega
  refine aa (wpAny_storeSet_of ho rfl ?_ lz)
  have ho1:=aCA (ks:=[]) (es':=esO (rJ us (cf pl.toArray j) (k,b))) (t':=spT (!byT w) mask (rJ pl (cf pl.toArray j) j) mv) ho rfl
  have sb1:=jn s.heap a (Obj.putSet (esO (rJ us (cf pl.toArray j) (k,b))) (spT (!byT w) mask (rJ pl (cf pl.toArray j) j) mv))
  have ez:(esO us).size=us.length:=by unfold esO;rw [aq,af]
  rw [aEU,lp,ez]
  by_cases c:(us.length+1)*5≥mask*3
  ·rw [if_pos (by simp [c])]
   obtain ⟨m',h1,h2,h3,h4,h5⟩:∃ m',n4 (wb (us.length+1)) - 1=m'/\¬ n4 (wb (us.length+1)) > ba/\M3 m'/\us.length+1<=moM m'/\(us.length+1)*5<m'*3:=by
    rcases P.m with rfl | rfl | rfl
    ·have e:us.length=4:=by omega
     rw [e]
     exact ⟨31,by decide +kernel,by rw [j9];decide +kernel, .inr (.inl rfl),by decide,by decide⟩
    ·have e:us.length=18:=by omega
     rw [e]
     exact ⟨127,by decide +kernel,by rw [j9];decide +kernel, .inr (.inr rfl),by decide,by decide⟩
    ·omega
   refine aa (aCZ (us':=us) ho1 P1 (by rw [ln];omega) h1 h2 h3 (by rw [ln];exact h4) fun h' us' ep' pl' mv' sb2 ho2 P2 pm2=>?_)
   exact ak (q h' us' _ (sb1.trans sb2) ⟨ep',m',pl',mv',ho2,P2,by rw [pm2.length_eq,ln];exact h5⟩ (.inr ⟨hm,pm2.trans pm⟩))
  ·rw [if_neg (by simp [c])]
   exact ak (q _ _ _ sb1 ⟨_,mask,_,mv,ho1,P1,by rw [ln];omega⟩ (.inr ⟨hm,pm⟩))
end
theorem uL {prog:Program}{w:World}{h h':Heap}{k:List Int}{a:Addr}(x:ja (gq prog w) h k a)(e:∀ o,h.get? a=some o->h'.get? a=some o):ja (gq prog w) h' k a:=
 let ⟨o,items,n,ho,r⟩:=x;⟨o,items,n,e o ho,r⟩
section
variable {prog:Program}{w:World}{A:Around}{R:zq->Shared->Prop}{I:Addr}{fp wr:List Addr}{G:Array GenState->Array GenState->Prop}{n:Nat}{P:Nat->Value->Prop}{St:Nat->Shared->Prop}
theorem aFf (hu:A.units+1<cLine)(W:WalksS prog w A.in1 I fp wr G n P St)(S:Addr)(hSf:S∉fp)(val:Nat->List Int × Addr)(hval:∀ i v,i<n->P i v->v = .ref (val i).2)(h8:∀ i,i<n->(val i).1∈K28)(hV:∀ i,i<n->(val i).2∉S :: wr) :
  ∀ (k i:Nat) (us:Us) (s:Shared),n - i=k->i<=n->St i s->aAe w S us s.heap->(∀ m,m<n->ja (gq prog w) s.heap (val m).1 (val m).2)->(∀ u∈us,∃ m,m<i/\u=val m)->(∀ m,m<i->(val m).1∈us.map (·.1)) ->
   (∀ us' s',Moved (S :: wr) G s s'->aAe w S us' s'.heap->(∀ u∈us',∃ m,m<n/\u=val m)->(∀ m,m<n->(val m).1∈us'.map (·.1))->R (.ok (.ret .none)) s') ->
   uq (model prog w) A (.builtin "set.update.loop" ⟨[.ref S, .ref I],[]⟩) R s:=by
 have hSw:S∉wr:=fun h=>hSf (W.sub _ h)
 have hsub:∀ b∈wr,b∈S :: wr:=fun b hb=>av _ hb
 have up:∀ {us:Us} {s s':Shared},Moved wr G s s'->aAe w S us s.heap->aAe w S us s'.heap:=fun hm ⟨ep,mk,pl,mv,ho,hE⟩=>⟨ep,mk,pl,mv,hm.heap S _ hSw ho,hE⟩
 intro k
 induction k with
 | zero=>
  intro i us s hk hi hst hS hB hm1 hm2 hR
  have hin:i=n:=by omega
  subst hin
  refine i5 xo ?_
  rw [i8 qu _]
  show wpAny _ A.in1 (wg (.ref I) >>= _) _ _ s
  refine aa (W.done s _ _ hst fun s' hmv=>?_)
  show wpAny _ A.in1 (ret Value.none) _ _ s'
  exact ak (hR us s' (hmv.mono hsub) (up hmv hS) hm1 hm2)
 | succ k ih=>
  intro i us s hk hi hst hS hB hm1 hm2 hR
  have hlt:i<n:=by omega
  refine i5 xo ?_
  rw [i8 qu _]
  show wpAny _ A.in1 (wg (.ref I) >>= _) _ _ s
  refine aa (W.item i s _ _ hlt hst fun v s' hP hst' hmv=>?_)
  obtain rfl:=hval i v hlt hP
  have hS':=up hmv hS
  have hB':∀ m,m<n->ja (gq prog w) s'.heap (val m).1 (val m).2:=fun m hm=>uL (hB m hm) fun o e=>hmv.heap _ _ (fun z=>hV m hm (av _ z)) e
  show wpAny _ A.in1 (xb [Value.ref (val i).2] (setAdd S (.ref (val i).2)) >>= _) _ _ s'
  refine aa (fj ?_)
  unfold setAdd
  refine fj ?_
  refine aa (wpAny_pyHash_tuple (show A.in1.units<cLine from hu) (hB' i hlt) ?_)
  refine aGn (s:={ s' with toks:=s'.toks+((val i).1.length+1) }) (k:=(val i).1) (show A.in1.units<cLine from hu) hS' (fun u hu'=>by obtain ⟨m,hm,rfl⟩:=hm1 u hu';exact hB' m (by omega)) (h8 i hlt) (hB' i hlt) fun h' us' r hsb hS2 hcase=>?_
  have nm1:∀ u∈us',∃ m,m<i+1/\u=val m:=fun u hu'=>by
   rcases hcase with ⟨_,pm⟩ | ⟨_,pm⟩
   ·obtain ⟨m,h1,h2⟩:=hm1 u (pm.mem_iff.mp hu')
    exact ⟨m,by omega,h2⟩
   ·rcases bj.mp (pm.mem_iff.mp hu') with rfl | hu'
    ·exact ⟨i,by omega,rfl⟩
    ·obtain ⟨m,h1,h2⟩:=hm1 u hu'
     exact ⟨m,by omega,h2⟩
  have nm2:∀ m,m<i+1->(val m).1∈us'.map (·.1):=fun m hm=>by
   rcases hcase with ⟨hc,pm⟩ | ⟨_,pm⟩
   ·refine (pm.map (·.1)).mem_iff.mpr ?_
    rcases w4.mp hm with h1 | rfl
    ·exact hm2 m h1
    ·exact hc
   ·refine (pm.map (·.1)).mem_iff.mpr ?_
    rcases w4.mp hm with h1 | rfl
    ·exact av _ (hm2 m h1)
    ·exact cg ..
  refine ak ⟨oz qu _,ih (i+1) _ _ (by omega) hlt (W.frame _ s' _ _ hst' (ni _ _) fun b hb o e=>?_) hS2 (fun m hm=>uL (hB' m hm) fun o e=>?_) nm1 nm2 fun us'' s'' hm'' hS'' hks1 hks2=>?_⟩
  ·rw [hsb.2 b (fun h:b=S=>hSf (by rw [<- h];exact hb))];exact e
  ·rw [hsb.2 _ (fun h:(val m).2=S=>hV m hm (by rw [h];exact cg))];exact e
  ·refine hR us'' s'' (Moved.trans W.gtrans ((hmv.mono hsub).then_heap (ni _ _) fun b o hb e=>?_) hm'') hS'' hks1 hks2
   rw [hsb.2 b (fun h:b=S=>hb (by rw [h];exact cg))];exact e
end
section
variable {prog:Program}{w:World}{A:Around}{E:Value->Shared->Prop}{s:Shared}
theorem aEd (h:Heap):aAe w h.objs.size [] (h.push (smO w #[] 0 [])):=⟨0,7,[],0,bp _ rfl,⟨.inl rfl,rfl, .nil,rz,(fun u hu=>by cases hu),fun i u j h=>by cases h⟩,by decide⟩
end
end L2
namespace L2
open PySem PySem.W PySem.Spec PyProof.Rows
section
variable {prog:Program}{w:World}{A:Around}{E:Value->Shared->Prop}{s:Shared}{a:Addr}{us:Us}{ep mask mv:Nat}{pl:List Nat}
theorem aCE {α β:Type}{f:α->β}{R' R:List β}(h:R'.Perm R):∀ qs:List α,R=qs.map f->∃ qs':List α,qs'.Perm qs/\R'=qs'.map f:=by
 induction h with
 | nil=>exact fun qs e=>⟨[],by cases qs with | nil=>exact .nil | cons _ _=>simp at e,rfl⟩
 | cons x _ ih=>
  intro qs e
  cases qs with
  | nil=>simp at e
  | cons q qs=>
   rw [df,List.cons.injEq] at e
   obtain ⟨qs',p,e'⟩:=ih qs e.2
   exact ⟨q :: qs',p.cons q,by rw [df,e.1,e']⟩
 | swap x y _=>
  intro qs e
  cases qs with
  | nil=>simp at e
  | cons q qs=>
   cases qs with
   | nil=>simp at e
   | cons r qs=>
    simp only [df,List.cons.injEq] at e
    exact ⟨r :: q :: qs, .swap q r qs,by simp only [df];rw [e.1,e.2.1,e.2.2]⟩
 | trans _ _ ih1 ih2=>
  intro qs e
  obtain ⟨q2,p2,e2⟩:=ih2 qs e
  obtain ⟨q1,p1,e1⟩:=ih1 q2 e2
  exact ⟨q1,p1.trans p2,e1⟩
theorem aDL {Q:Bool->Shared->Prop}(ho:s.heap.get? a=some (spO w us ep mask pl mv))(hf:(spT (!byT w) mask pl mv).fits (esO us).size=true)(h:Q false s):wpAny (model prog w) A (setDrawn a) Q E s:=by
 unfold setDrawn setsByText
 refine aa (jh ho rfl hf (aa (aa (mz (ak ?_)))))
 refine ak ?_
 have:(!(w.params.followText "set-order") && (!(spT (!byT w) mask pl mv).plain && decide ((esO us).size > 1)))=false:=by
  rw [show (spT (!byT w) mask pl mv).plain=true from rfl];simp
 exact this ▸ h
theorem aEM {Q:Value->Shared->Prop}(ho:s.heap.get? a=some (spO w us ep mask pl mv))(hf:(spT (!byT w) mask pl mv).fits (esO us).size=true)
  (h:Q (.ref s.heap.objs.size) { s with heap:=s.heap.push { cls := .type "set_iterator",data := .fields #[lr 0,lr 0, .ref a,lr (esO us).size,lr ep] } }):wpAny (model prog w) A (AR (.ref a)) Q E s:=by
 have hT:s.TypeIs (.ref a) "set":=⟨_,ho,rfl⟩
 refine wpAny_pyIter_slot hT F.slot_set_iter (fw F.slot_set_iter hT rP ?g (F.args_set_iter_1 _))
 case g=>
 unfold Builtin.«frozenset.__iter__» Builtin.Frozenset.slot0 Builtin.Frozenset.sizeOf
 refine aa (aa (ak (ak ?_)))
 refine aa (aa (u9 ho rfl hf (ak ?_)))
 refine aa (aDL ho hf ?_)
 rw [if_neg (by exact bu)]
 refine aa (ak (aa (wpAny_setEpoch_of ho rfl hf ?_)))
 unfold newFields
 refine aa (gf (ak ⟨_,rfl,"set_iterator",_,⟨_,bp _ rfl,rfl⟩,cV.lookup,?_⟩))
 exact h
theorem aBZ {slot i:Nat}{Q:Option (Value × Nat)->Shared->Prop}(ho:s.heap.get? a=some (spO w us ep mask pl mv))(P:Ptb mask pl us)(hz:us.length*5<mask*3)(hs:slot=gC w pl i)(hi:i<=(esO us).size)
  (h:Q (((hU w a ep (esO us))[i]?).map fun e=>(e.2,gC w pl (i+1))) s):wpAny (model prog w) A (setNext a slot i ep) Q E s:=by
 have hf:(spT (!byT w) mask pl mv).fits (esO us).size=true:=iJ P (by omega) (!byT w) mv
 have sz:(esO us).size=pl.length:=by unfold esO;rw [aq,af,P.len]
 unfold setNext setsByText
 refine aa (jh ho rfl hf (aa (aa (mz (ak ?_)))))
 dsimp only
 show wpAny _ _ (if byT w=true then _ else _) _ _ _
 cases hb:byT w with
 | true=>
  rw [if_pos rfl,if_neg (by simp)]
  unfold setWalk setsByText
  refine aa (aa (jh ho rfl hf (aa (aa (mz (ak ?_))))))
  dsimp only
  show wpAny _ _ (if byT w=true then _ else _) _ _ _
  rw [if_pos hb]
  refine aa (mz (ak (ak ?_)))
  unfold hU at h
  rw [if_pos hb] at h
  have e1:gC w pl (i+1)=slot:=by
   rw [hs]
   cases i with
   | zero=>simp [gC,hb]
   | succ i=>simp [gC,hb]
  rw [e1] at h
  exact h
 | false=>
  rw [if_neg (by simp)]
  rw [if_neg]
  rotate_left
  ·show ¬ ((!true && decide ((esO us).size > 1))=true)
   simp
  refine aa (uv (a:=()) rfl ?_)
  refine ak ?_
  unfold hU at h
  rw [hb,if_neg (by simp)] at h
  have z0:=aAH P.ris
  have eb:cf pl.toArray slot=i:=by
   rw [hs]
   cases i with
   | zero=>exact z0
   | succ i=>
    show cf pl.toArray (if byT w then 0 else pl.getD i 0+1)=i+1
    rw [hb,if_neg (by simp)]
    have hi':i<pl.length:=by rw [<- sz];omega
    rw [aj,ah hi']
    exact aAy P.ris (ah hi')
  show Q (match (esO us)[cf pl.toArray slot]?,pl.toArray[cf pl.toArray slot]? with
     | some (_,x),some j=>some (x,j+1)
     | _,_=>none) s
  rw [eb]
  by_cases c:i<(esO us).size
  ·have c':i<pl.length:=by rw [<- sz];exact c
   rw [d9 c] at h ⊢
   rw [jg,ah c']
   have e2:gC w pl (i+1)=pl[i]+1:=by
    show (if byT w then 0 else pl.getD i 0+1)=_
    rw [hb,if_neg (by simp),aj,ah c']
    rfl
   rw [e2] at h
   exact h
  ·rw [jb (by omega)] at h ⊢
   exact h
theorem aDE {it:Addr}{i:Nat}{Q:Option Value->Shared->Prop}(hit:SIt it a (gC w pl i) i (esO us).size ep s.heap)(ho:s.heap.get? a=some (spO w us ep mask pl mv))(P:Ptb mask pl us)(hz:us.length*5<mask*3){e:Int × Value}(hx:(hU w a ep (esO us))[i]?=some e)(hi:i<(esO us).size)
  (q:∀ h',SIt it a (gC w pl (i+1)) (i+1) (esO us).size ep h'->iu it s.heap h'->Q (some e.2) { s with heap:=h' }):wpAny (model prog w) A (wg (.ref it)) Q E s:=by
 have hf:(spT (!byT w) mask pl mv).fits (esO us).size=true:=iJ P (by omega) (!byT w) mv
 have hT:=hit.typeIs
 obtain ⟨oi,hi1,hi2,hi3⟩:=id hit
 unfold wg
 refine aa (qq (ig (name:=n5 "__next__") hT cV (fw cV hT iV ?g (jU _))))
 case g=>
 unfold Builtin.«set_iterator.__next__» slotArgs
 refine aa (ak (aa (wpAny_fieldsOf hi1 hi3 ?_)))
 refine aa (u9 ho rfl hf ?_)
 rw [if_neg (by simp)]
 show wpAny _ _ (setNext a (gC w pl i:Int).toNat (i:Int).toNat (ep:Int).toNat >>= _) _ _ s
 rw [dy,dy,dy]
 refine aa (aBZ ho P hz rfl (mi hi) ?_)
 rw [hx]
 show wpAny _ _ (setField (.ref it) 0 (lr (gC w pl (i+1))) >>= _) _ _ s
 refine aa (sa hi1 hi3 (by simp) ?_)
 have d1:=nv hi3 (·.setIfInBounds 0 (lr (gC w pl (i+1))))
 have g1:=i4 (xn (·.setIfInBounds 0 (lr (gC w pl (i+1))))) hi1 (om d1)
 refine aa (sa g1 d1 (by simp) ?_)
 exact ak ⟨_,rfl,ak (q _ (SIt.step hit) ((jn ..).trans (jn ..)))⟩
theorem aFi {it : Addr} {Q : Option Value -> Shared -> Prop} (hh : A.handled = none) (hit : SIt it a (gC w pl (esO us).size) (esO us).size (esO us).size ep s.heap) (ho : s.heap.get? a = some (spO w us ep mask pl mv)) (P : Ptb mask pl us) (hz : us.length * 5 < mask * 3)
    (q : ∀ h', Ag it s.heap h' -> Q none { s with heap := h' }) : wpAny (model prog w) A (wg (.ref it)) Q E s := by
  have hf : (spT (!byT w) mask pl mv).fits (esO us).size = true := iJ P (by omega) (!byT w) mv
  have hT := hit.typeIs
  obtain ⟨oi, hi1, hi2, hi3⟩ := id hit
  unfold wg
  refine aa (qq (ig (name := n5 "__next__") hT cV (fw cV hT iV ?g (jU _))))
  case g =>
  unfold Builtin.«set_iterator.__next__» slotArgs
  refine aa (ak (aa (wpAny_fieldsOf hi1 hi3 ?_)))
  refine aa (u9 ho rfl hf ?_)
  rw [if_neg (by simp)]
  show wpAny _ _ (setNext a (gC w pl (esO us).size : Int).toNat ((esO us).size : Int).toNat (ep : Int).toNat >>= _) _ _ s
  rw [dy, dy, dy]
  refine aa (aBZ ho P hz rfl (ay _) ?_)
  have hw : (hU w a ep (esO us)).size = (esO us).size := by rw [<- fc, (lC w a ep (esO us)).length_eq, fc]
  rw [jb (by omega)]
  show wpAny _ _ (setField (.ref it) 2 .none >>= _) _ _ s
  refine aa (sa hi1 hi3 (by simp) ?_)
  show wpAny _ _ (newExc (.type "StopIteration") [] >>= _) _ _ _
  simp only [newExc, newTuple]
  refine aa (aa (gf (aa (m := v9 _ _) (uv (a := Value.none) (by first | rfl | (simp only [v9]; rfl)) (gf ?g (by size_fits)))) (by size_fits)))
  case g =>
  simp only [raiseNew]
  refine aa (wpAny_handled ?g)
  case g =>
  rw [show A.in1.handled = none from hh]
  refine aa (ak (wpAny_throw ?z))
  case z => refine aa (nh (T := "StopIteration") (b := true) ⟨_, bp _ rfl, rfl⟩ isSubtype_stop ?z)
            case z => exact ak (q _ (((jn ..).extBut.push _).push _))
theorem aDV (hh:A.handled=none)(I a:Addr)(hne:a≠I)(ep:Nat)(P:Ptb mask pl us)(hz:us.length*5<mask*3) :
  Walks prog w A I [I,a] [I] (esO us).size (fun i v=>∃ e,(hU w a ep (esO us))[i]?=some e/\v=e.2) (fun i h=>SIt I a (gC w pl i) i (esO us).size ep h/\h.get? a=some (spO w us ep mask pl mv)) where
 sub:=fun b hb=>by simp at hb;simp [hb]
 frame:=fun _ _ _ st hk=>⟨st.1.at fun o e=>hk I (by simp) o e,hk a (by simp) _ st.2⟩
 item:=fun i s Q E hi st hQ=>by
  have hw:(hU w a ep (esO us)).size=(esO us).size:=by rw [<- fc,(lC w a ep (esO us)).length_eq,fc]
  refine aDE st.1 st.2 P hz (d9 (by omega)) hi fun h' hit' hs'=>?_
  exact hQ _ h' s.toks ⟨_,d9 (by omega),rfl⟩ ⟨hit',by rw [hs'.2 a hne];exact st.2⟩ fun b o hb e=>hs'.extBut b o (fun h=>hb (by simp [h])) e
 done:=fun s Q E st hQ=>aFi hh st.1 st.2 P hz fun h' he'=>hQ h' s.toks fun b o hb e=>he' b o (fun h=>hb (by simp [h])) e
 self:=fun i s Q E st hQ=>by
  have hT:s.TypeIs (.ref I) "set_iterator":=SIt.typeIs st.1
  refine wpAny_pyIter_slot hT jM (fw jM hT oN ?_ (pO _))
  show wpAny _ _ (ret (.ref I)) _ _ s
  exact ak ⟨_,rfl,"set_iterator",_,hT,cV.lookup,hQ⟩
theorem aGZ (P:Ptb mask pl us)(hz:us.length*5<mask*3):KdlSrc prog w "set" a a (esO us).size (fun i v=>∃ e,(hU w a ep (esO us))[i]?=some e/\v=e.2) (fun h=>h.get? a=some (spO w us ep mask pl mv)) where
 type:=fun _ hm=>⟨_,hm,rfl⟩
 there:=fun _ hm=>⟨br hm,br hm⟩
 keep:=fun _ _ hm hk=>hk a (.inl rfl) _ hm
 notList:=by decide
 notTuple:=by decide
 hint:=fun _ _ s _ hm hq=>aCY ⟨_,hm,rfl⟩ hq
 iter:=fun A s hh hm=>⟨{ cls := .type "set_iterator",data := .fields #[lr 0,lr 0, .ref a,lr (esO us).size,lr ep] },_,(fun _ _ hq=>aEM hm (iJ P (by omega) (!byT w) mv) hq),aDV hh _ a (d0 (br hm)) ep P hz,⟨⟨_,bp _ rfl,rfl,rfl⟩,ao _ hm⟩⟩
theorem aAv {Q:List Value->Shared->Prop}(hh:A.handled=none)(ho:s.heap.get? a=some (spO w us ep mask pl mv))(P:Ptb mask pl us)(hz:us.length*5<mask*3)
  (hQ:∀ (h':Heap) (tk:Nat) (us':Us),us'.Perm us->(∀ b o,s.heap.get? b=some o->h'.get? b=some o)->s.heap.objs.size<h'.objs.size->Q (us'.map fun u=>Value.ref u.2) { s with heap:=h',toks:=tk }):wpAny (model prog w) A (collect (.ref a)) Q E s:=by
 have few:=P.few
 have ha:a<s.heap.objs.size:=br ho
 unfold collect
 let R1:zq->Shared->Prop:=fun r s'=>∃ h' tk acc c,r = .ok (.ret (.ref s.heap.objs.size))/\s'={ s with heap:=h',toks:=tk }/\h'.get? s.heap.objs.size=some { cls := .type "list",dict:=none,data := .seq acc c,slots:=#[] }/\(∀ b o,s.heap.get? b=some o->h'.get? b=some o)/\ItemsOf (fun i v=>∃ e,(hU w a ep (esO us))[i]?=some e/\v=e.2) acc (esO us).size
 refine aa (zv (kq (R:=R1) ?_ ?_))
 ·refine i5 F.entry_proto_collect ?_
  rw [i8 F.plain_proto_collect _]
  show wpAny _ A.in1 (newList [] >>= fun l=>again (.builtin "list.__iadd__" ⟨[l, .ref a],[]⟩)) _ _ s
  refine aa (gf ?_)
  refine ak ⟨oz F.plain_list_iadd _,i5 F.entry_list_iadd ?_⟩
  rw [i8 F.plain_list_iadd _]
  have ho1:(s.heap.push { cls := .type "list",data := .seq ([]:List Value).toArray }).get? a=some (spO w us ep mask pl mv):=ao _ ho
  have hS₁:(s.heap.push { cls := .type "list",data := .seq ([]:List Value).toArray }).get? s.heap.objs.size=some { cls := .type "list",data := .seq ([]:List Value).toArray }:=bp _ rfl
  show wpAny _ A.in1 (oh (.ref s.heap.objs.size) (.ref a) (.ref s.heap.objs.size)) _ _ { s with heap:=s.heap.push { cls := .type "list",data := .seq ([]:List Value).toArray } }
  exact kdl_extend (R:=R1) (s:={ s with heap:=s.heap.push { cls := .type "list",data := .seq ([]:List Value).toArray } }) (aGZ (prog:=prog) (w:=w) (a:=a) (ep:=ep) P hz) hh ho1 s.heap.objs.size (mj ha) (mj ha) (.ref s.heap.objs.size) 0 hS₁ (fun h' tk acc c hk hS' hA=>⟨h',tk,acc,c,rfl,rfl,hS',fun b o e=>hk b o (d0 (br e)) (ao _ e),hA⟩) (by unfold esO;rw [aq,af,j9];omega)
 ·rintro r s' ⟨h',tk,acc,c,rfl,rfl,hS',hk,hA⟩
  have hp:=lC w a ep (esO us)
  obtain ⟨us',pm,eu⟩:=aCE (f:=fun u:List Int × Addr=>(hT u.1,Value.ref u.2)) hp us (by unfold esO;rfl)
  have ea:acc.toList=us'.map fun u=>Value.ref u.2:=by
   have e1:acc.toList=(hU w a ep (esO us)).toList.map (·.2):=by
    apply List.ext_getElem?
    intro i
    rw [az,su,su]
    by_cases c:i<acc.size
    ·obtain ⟨e,h1,h2⟩:=hA.2 i acc[i] (d9 c)
     rw [d9 c,h1,h2];rfl
    ·have hw:(hU w a ep (esO us)).size=(esO us).size:=by rw [<- fc,hp.length_eq,fc]
     rw [jb (by omega),jb (by have:=hA.1;omega)];rfl
   rw [e1,eu,ft];rfl
  show wpAny _ A (load s.heap.objs.size >>= _) _ _ _
  refine aa (wpAny_load hS' ?_)
  show wpAny _ _ (pure acc.toList) _ _ _
  rw [ea]
  exact ak (hQ h' tk us' pm hk (br hS'))
end
end L2
namespace L2
open PySem PySem.Spec PySem.W PyProof.Rows
theorem aHz:∀ k∈K28,k≠[]:=by decide +kernel
theorem aEq {prog:Program}{w:World}:∀ {vs:List Value} {ns:List Int},IntsAre vs ns->PySem.ItemsAre (gq prog w) ns vs
 | _,_, .nil => .nil
 | _,_, .cons n t r => .cons (intKind_is prog w n t) (aEq r)
section
variable {prog:Program}{w:World}{A:Around}{E:Value->Shared->Prop}{s:Shared}{a:Addr}{us:Us}{ep mask mv:Nat}{pl:List Nat}
theorem uU {α β:Type}{d:α}{e:β}(f:α->β){l:List α}:∀ {ix:List Nat},(∀ i∈ix,i<l.length)->(ix.map fun i=>(l.map f).getD i e)=(ix.map fun i=>l.getD i d).map f
 | [],_=>rfl
 | i :: ix,h=>by
  have hi:=h i (cg ..)
  rw [df,df,df,uU (d:=d) f fun j hj=>h j (av _ hj)]
  congr 1
  rw [aj,aj,az,ah hi]
  rfl
theorem aBy {Q:Value->Shared->Prop}(hh:A.handled=none)(ho:s.heap.get? a=some (spO w us ep mask pl mv))(P:Ptb mask pl us)(hz:us.length*5<mask*3)(hB:∀ u∈us,∃ vs:List Value,IsTup s.heap u.2 vs.toArray/\IntsAre vs u.1)
  (q:∀ (l:Addr) (h':Heap) (tk:Nat) (us':Us) (c:Nat),s.heap.objs.size<=l->(∀ b o,s.heap.get? b=some o->h'.get? b=some o)->h'.get? l=some (kd "list" (us'.map fun u=>Value.ref u.2).toArray c)->us'.Perm us->(us'.map (·.1)).Pairwise (fun a b=>fO b a=false)->Q (.ref l) { s with heap:=h',toks:=tk }):wpAny (model prog w) A (call (.builtin "sorted") [.ref a]) Q E s:=by
 have few:=P.few
 refine ph Be AX AY (AZ _) ?g1
 case g1=>
  unfold xu
  refine aa (m:=checkCount "sorted" 1 1 _) (ak (aa (aAv hh ho P hz fun h1 tk u1 pm hk hs=>?g2)))
  case g2=>
   have l1:u1.length=us.length:=pm.length_eq
   refine aa (ug ?g3 (by rw [af,l1,j9];omega))
   case g3=>
    have e2:(h1.push (kd "list" (u1.map fun u=>Value.ref u.2).toArray 0)).get? h1.objs.size=some (kd "list" (u1.map fun u=>Value.ref u.2).toArray 0):=bp _ rfl
    have hv:TupsAt (h1.push (kd "list" (u1.map fun u=>Value.ref u.2).toArray 0)) (u1.map fun u=>Value.ref u.2) (u1.map (·.1)):=by
     refine ⟨by rw [af,af],fun i row hr=>?_⟩
     rw [az] at hr
     obtain ⟨u,hu,rfl⟩:=i9.mp hr
     obtain ⟨vs,⟨o,b1,b2,b3⟩,hi⟩:=hB u (pm.mem_iff.mp (aw hu))
     exact ⟨u.2,vs,by rw [az,hu];rfl,⟨o,ao _ (hk _ _ b1),b2,b3⟩,hi⟩
    have hne:∀ q∈u1.map (·.1),q≠[]:=fun q hq=>by
     obtain ⟨u,hu,rfl⟩:=cy.mp hq
     exact aHz _ (P.mem u (pm.mem_iff.mp hu))
    show wpAny _ _ _ _ _ { s with heap:=h1.push (kd "list" (u1.map fun u=>Value.ref u.2).toArray 0),toks:=tk }
    refine aa (fj (fw zx ⟨_,e2,rfl⟩ ym (lY (s:={ s with heap:=h1.push (kd "list" (u1.map fun u=>Value.ref u.2).toArray 0),toks:=tk }) e2 hv hne (by rw [af,l1];omega) fun p hp=>⟨_,rfl,ak ⟨_,rfl,?g4⟩⟩) (zy _)))
    case g4=>
     obtain ⟨f1,f2⟩:=zW hp
     have pl':p.toList.Perm (ar u1.length):=by
      have:=o9.mp hp.1
      rw [af] at this
      simpa using this
     have hb:∀ i∈p.toList,i<u1.length:=fun i hi=>cp.mp (pl'.mem_iff.mp hi)
     have eR:(p.toList.map fun i=>(u1.map (·.1)).getD i [])=(p.toList.map fun i=>u1.getD i ([],0)).map (·.1):=uU _ hb
     have eV:(p.toList.map fun i=>(u1.map fun u=>Value.ref u.2).getD i Value.none)=(p.toList.map fun i=>u1.getD i ([],0)).map fun u=>Value.ref u.2:=uU _ hb
     rw [eR] at f2
     rw [eV]
     obtain ⟨c,he⟩:=sortedHeap_at (vs:=u1.map fun u=>Value.ref u.2) (out:=((p.toList.map fun i=>u1.getD i ([],0)).map fun u=>Value.ref u.2).toArray) e2
     have ex:(ar u1.length).map (fun i=>u1.getD i ([],0))=u1:=by
      apply tu
      ·simp
      ·intro i h1 h2
       rw [p8,vx,aj,ah h2];rfl
     have py:(p.toList.map fun i=>u1.getD i ([],0)).Perm u1:=by have:=pl'.map fun i=>u1.getD i ([],0);rw [ex] at this;exact this
     refine q h1.objs.size _ tk _ c (mi hs) (fun b o e=>?_) he (py.trans pm) f2
     have hb':b<h1.objs.size:=br (hk b o e)
     rw [sortedHeap_old (d0 hb') (by rw [jc];exact jm hb')]
     exact ao _ (hk b o e)
end
section
variable {X:Cx}
def aHS (K:ae) (H:Hp) (us:Us):Prop:=∀ u∈us,SqT K H u.2 (u.1.map V.int)
def aEw (w:World) (K:ae):List V->Hp->VK->Prop:=fun vs H Q=>∃ (a:Addr) (us:Us),vs=[.ref a]/\H a=some (.ext (aAe w a us))/\aHS K H us/\∀ (us':Us) (l:Addr),H l=none->us'.Perm us->(us'.map (·.1)).Pairwise (fun a b=>fO b a=false)->Q (.ref l) (upd H l (.lst (us'.map fun u=>V.ref u.2)))
theorem aGx {K:ae}{H:Hp}:∀ {xs:List V} {R:List (List Int)},Rows K H xs R->∃ vs:Us,xs=vs.map (fun u=>V.ref u.2)/\vs.map (·.1)=R/\aHS K H vs
 | [],[],_=>⟨[],rfl,rfl,fun u hu=>by cases hu⟩
 | [],r :: R,h=>by have:=h.1;cases this
 | x :: xs,[],h=>by have:=h.1;cases this
 | x :: xs,r :: R,h=>by
  obtain ⟨b,e1,e2⟩:=h.2 0 r rfl
  obtain ⟨vs,f1,f2,f3⟩:=aGx (K:=K) (H:=H) (xs:=xs) (R:=R) ⟨by have:=h.1;simpa using this,fun i row hr=>h.2 (i+1) row hr⟩
  refine ⟨(r,b) :: vs,by rw [df,<- f1];congr 1;exact cu e1,by rw [df,f2],fun u hu=>?_⟩
  rcases bj.mp hu with rfl | hu
  ·exact e2
  ·exact f3 u hu
theorem sJ:∀ {vs:Us} {its:List Value},Vals (vs.map fun u=>V.ref u.2) its->its=vs.map fun u=>Value.ref u.2
 | [],_, .nil=>rfl
 | _ :: _,_, .cons r t=>by
  obtain rfl:=r
  rw [sJ t];rfl
theorem sQ:∀ vs:Us,Vals (vs.map fun u=>V.ref u.2) (vs.map fun u=>Value.ref u.2)
 | [] => .nil
 | _ :: vs => .cons rfl (sQ vs)
theorem aAi (hc:X.calm=true):CallR X (.builtin "sorted") (aEw X.w X.K):=by
 intro pins s σ H xs us Q I r ⟨a,vs,e,ha,hrow,q⟩
 subst e
 obtain ⟨u,rfl,ru⟩:=r.one
 obtain rfl:u=Value.ref a:=ru
 have hS:aAe X.w a vs s.heap:=(I.hok a _ ha).1
 obtain ⟨ep,mk,pls,mv,o1,o2,o3⟩:=id hS
 have few:=o2.few
 refine aBy (I.ok.hd hc) o1 o2 o3 (fun v hv=>?_) fun l h' tk us' c hl hk he pm srt=>?_
 ·obtain ⟨zs,rvs,pl,_⟩:=I.tuple (hrow v hv)
  exact ⟨zs,pl,gA rvs⟩
 ·refine ⟨.ref l,_,I.laid (a:=l) (t':=tk) (o := .lst (us'.map fun u=>V.ref u.2)) hk hl ⟨?_,us'.map fun u=>Value.ref u.2,c,sQ us',by simpa using he⟩,rfl,q us' l (I.hok.fresh hl) pm srt⟩
  rw [af,pm.length_eq,j9]
  omega
theorem aFE {K:ae}{H:Hp}{us:Us}(h:aHS K H us):Rows K H (us.map fun u=>V.ref u.2) (us.map (·.1)):=by
 refine ⟨by rw [af,af],fun i row hr=>?_⟩
 rw [az] at hr
 obtain ⟨u,hu,rfl⟩:=i9.mp hr
 exact ⟨u.2,by rw [az,hu];rfl,h u (aw hu)⟩
end
end L2
namespace L2
open PySem PySem.Spec PyProof.Rows
section
variable {X:Cx}
end
end L2
namespace L2
open PySem PySem.W PyProof.Rows
structure PBs (a₀:Array Keyed)(κ:ze)(st:yu):Prop where
 perm:(arrOf st).Perm a₀
 kind:kindOf st=κ
 failed:AG st=none
section
variable {prog:Program}{w:World}{A:Around}{E:Value->Shared->Prop}{s:Shared}{a₀:Array Keyed}{κ:ze}{st:yu}
structure Kpt (a₀:Array Keyed)(κ:ze)(st st':yu):Prop where
 b:PBs a₀ κ st'
 p:Bj st'=Bj st
theorem Kpt.trans {st1 st2:yu}(h:Kpt a₀ κ st st1)(g:Kpt a₀ κ st1 st2):Kpt a₀ κ st st2:=⟨g.b,g.p.trans h.p⟩
end
section
variable {prog:Program}{w:World}{A:Around}{E:Value->Shared->Prop}{s:Shared}{a₀:Array Keyed}{κ:ze}{st:yu}
end
section
variable {a b out:Array Keyed}{i j k:Nat}
end
structure SG (st st':yu):Prop where
 k:kindOf st'=kindOf st
 a:arrOf st'=arrOf st
 p:Bj st'=Bj st
 f:AG st'=AG st
theorem SG.trans {s1 s2 s3:yu}(h:SG s1 s2)(g:SG s2 s3):SG s1 s3:=⟨g.k.trans h.k,g.a.trans h.a,g.p.trans h.p,g.f.trans h.f⟩
section
variable {prog:Program}{w:World}{A:Around}{E:Value->Shared->Prop}{s:Shared}{a₀:Array Keyed}{κ:ze}{st:yu}
end
section
variable {a b out:Array Keyed}{i j k:Nat}
end
section
variable {prog:Program}{w:World}{A:Around}{E:Value->Shared->Prop}{s:Shared}{a₀:Array Keyed}{κ:ze}{st:yu}
end
section
variable {prog:Program}{w:World}{A:Around}{E:Value->Shared->Prop}{s:Shared}{a₀:Array Keyed}{κ:ze}{st:yu}
end
section
variable {prog:Program}{w:World}{A:Around}{E:Value->Shared->Prop}{s:Shared}
end
section
variable {prog:Program}{w:World}{A:Around}{E:Value->Shared->Prop}{s:Shared}{d:Addr}{o:Obj}{es:Array DictEntry}{ep:Nat}
end
section
variable {X:Cx}
end
end L2
namespace L2
open PySem PySem.Spec PyProof.Rows
def aJC (c:Addr) (q:Str):HO := .ext fun h=>∃ o vs t,h.get? c=some o/\o.data = .fields vs/\vs[1]?=some (.str q t)
def TabS (H:Hp) (P:Addr) (pos:Pos) (q:Str):Prop:=H P=some (.tbl #[])\/∃ c,H P=some (.tbl #[lr pos.line,lr pos.col, .ref c])/\H c=some (aJC c q)
theorem TabS.same {H H':Hp}{P:Addr}{pos:Pos}{q:Str}(h:TabS H P pos q)(s:Same H H'):TabS H' P pos q:=by
 rcases h with h | ⟨c,h1,h2⟩
 ·exact .inl (s _ _ h)
 ·exact .inr ⟨c,s _ _ h1,s _ _ h2⟩
section
variable {X:Cx}{pins:List (Addr × Obj)}{σ:St}{H:Hp}{s:Shared}{P cc:Addr}
end
section
variable {X:Cx}{pins:List (Addr × Obj)}{σ:St}{l f i0 S0:Addr}{us:List Value}{R:zq->Shared->Prop}{fobj:Obj}{H:Hp}
theorem FpOk.at {H':Hp}{b:Addr}(F:FpOk X pins H b)(h:H' b=none):FpOk X pins H' b:=⟨h,F.2⟩
end
section
variable {X:Cx}
end
end L2
namespace L2
open PySem PySem.Spec PySem.W PyProof.Rows
section
variable {prog:Program}{w:World}{A:Around}{E:Value->Shared->Prop}{s:Shared}
theorem PlainL.isList {h:Heap}{a:Addr}{its:Array Value}(x:PlainL h a its):h.IsList a its:=let ⟨o,n,e,c,_,d⟩:=x;⟨o,e,c,n,by rw [d]⟩
theorem vW {l:Addr}{items:Array Value}{vs:Us}{Q:Value->Shared->Prop}(hu:A.units+20<cLine)(hh:A.handled=none)(hl:s.heap.IsList l items)(hi:items.toList=vs.map fun u=>Value.ref u.2)(hB:∀ u∈vs,ja (gq prog w) s.heap u.1 u.2)(h8:∀ u∈vs,u.1∈K28)
  (h:∀ (h':Heap) (tk:Nat) (us:Us),aAe w s.heap.objs.size us h'->(∀ u∈us,u∈vs)->(∀ u∈vs,u.1∈us.map (·.1))->(∀ b o,b<s.heap.objs.size->s.heap.get? b=some o->h'.get? b=some o)->Q (.ref s.heap.objs.size) { s with heap:=h',toks:=tk }) :
  wpAny (model prog w) A (call (.type "set") [.ref l]) Q E s:=by
 obtain ⟨c,tl,hmro⟩:=ot.mro
 have hmade:=ot.made
 have hsub:=ot.sub
 refine AJ (yj ?_)
 show wpAny _ _ (callAny (.type "set") _) _ _ _
 refine ak ⟨vo _ (by decide +kernel),i5 F.entry_type_call ?_⟩
 rw [Around.under_plain (weight_type_call_type "set" [.ref l] []) rfl]
 have h1:=ot.notType
 have h2:=ot.canCreate
 have hct:=F.typeCall_set_1 (.ref l)
 repeat (any_goals (first | assumption | wp_step))
 refine kq (aHx (.ref l) (E:=E) (Q₁:=fun obj s1=>obj = .ref s.heap.objs.size/\s1={ s with heap:=s.heap.push (smO w #[] 0 []) }) ⟨rfl,rfl⟩) fun r s1 hr=>?_
 cases r with
 | error e=>exact hr
 | ok fl=>
  cases fl with
  | ret obj=>
   obtain ⟨rfl,rfl⟩:=hr
   have hS:(s.heap.push (smO w #[] 0 [])).get? s.heap.objs.size=some (smO w #[] 0 []):=bp _ rfl
   have hT:Shared.TypeIs { s with heap:=s.heap.push (smO w #[] 0 []) } (.ref s.heap.objs.size) "set":=⟨_,hS,rfl⟩
   have hli:=ot.init.lookup
   have hbi:=ot.init.bind (.ref s.heap.objs.size)
   repeat (any_goals (first | assumption | wp_step))
   refine kq (uc (R:=wants (fun r s2=>r = .none/\∃ h' tk us,s2={ s with heap:=h',toks:=tk }/\aAe w s.heap.objs.size us h'/\(∀ u∈us,u∈vs)/\(∀ u∈vs,u.1∈us.map (·.1))/\∀ b o,b<s.heap.objs.size->s.heap.get? b=some o->h'.get? b=some o) E) ot.init.plain F.entry_set_init (check_set_init_1 hT ?_)) fun r2 s2 hr2=>?_
   ·obtain ⟨ol,hol,hcl,nl,hdl⟩:=hl
    obtain ⟨ocls,odict,odata,oslots⟩:=ol
    simp only at hcl hdl
    subst hcl;subst hdl
    have hol':(s.heap.push (smO w #[] 0 [])).get? l=some { cls := .type "list",dict:=odict,data := .seq items nl,slots:=oslots }:=ao _ hol
    have hsls:=F.sub_list_set
    have hslf:=F.sub_list_frozenset
    have hne:(Value.type "list" == Value.type "dict")=false:=by decide
    have hl1:(s.heap.push (smO w #[] 0 [])).IsList l items:=⟨_,hol',rfl,nl,rfl⟩
    have hlS:l<s.heap.objs.size:=br hol
    unfold Builtin.«set.__init__» noKeywords Builtin.Frozenset.updateFrom
    generalize hPI:AR=PI
    wp_walk
    subst hPI
    refine rh hl1 ?_
    refine aa (zv ?_)
    have hh3:A.in1.in1.in1.handled=none:=by simp [hh]
    have hneI:l≠(s.heap.push (smO w #[] 0 [])).objs.size:=by
     rw [jc]
     exact d0 (jm hlS)
    have hlen:items.size=vs.length:=by rw [<- fc,hi,af]
    have hat:∀ i,i<items.size->∃ u∈vs,vs.getD i ([],0)=u/\vs[i]?=some u:=fun i h=>by
     rw [hlen] at h
     exact ⟨vs[i],fb h,by rw [aj,ah h];rfl,ah h⟩
    have old:∀ u∈vs,u.2<s.heap.objs.size:=fun u hu'=>by
     obtain ⟨o,_,_,ho,_⟩:=hB u hu'
     exact br ho
    refine aFf (show A.units+1+1+1<cLine by omega) ((Walks.list hh3 _ l hneI items).toS) s.heap.objs.size ?_ (fun i=>vs.getD i ([],0)) (fun i v hlt hv=>?_) (fun i hlt=>?_) (fun i hlt=>?_) (items.size - 0) 0 [] _ (by omega) (bh _) ⟨⟨_,bp _ rfl,rfl,rfl⟩,hl1.push _⟩ ?_ (fun m hm=>?_) (fun u hu'=>by cases hu') (fun m hm=>absurd hm (mh m)) ?_
    ·rw [jc]
     simp only [bj,ng,or_false,not_or]
     exact ⟨d0 (nc _),mj hlS⟩
    ·obtain ⟨u,hu',e1,e2⟩:=hat i hlt
     try dsimp only
     rw [e1]
     have hv:items[i]?=some v:=hv
     rw [<- su,hi,az,e2] at hv
     exact (cu hv).symm
    ·obtain ⟨u,hu',e1,e2⟩:=hat i hlt
     try dsimp only
     rw [e1];exact h8 u hu'
    ·obtain ⟨u,hu',e1,e2⟩:=hat i hlt
     try dsimp only
     rw [e1,jc]
     have:=old u hu'
     simp only [bj,ng,or_false,not_or]
     exact ⟨d0 this,d0 (jm this)⟩
    ·obtain ⟨ep,mk,pl,mv,a1,a2⟩:=aEd (w:=w) s.heap
     exact ⟨ep,mk,pl,mv,ao _ a1,a2⟩
    ·obtain ⟨u,hu',e1,e2⟩:=hat m hm
     try dsimp only
     rw [e1]
     exact uL (hB u hu') fun o e=>ao _ (ao _ e)
    ·intro us' s' hm hS' hks1 hks2
     obtain ⟨h',g',d',tk',os'⟩:=s'
     have eg:g'=s.gens:=hm.gens
     have ed:d'=s.drawn:=hm.drawn
     have eo:os'=s.os:=hm.os
     subst eg ed eo
     show wpAny _ _ _ _ _ _
     refine ak ?_
     show wpAny _ _ (ret Value.none) _ _ _
     refine ak ⟨rfl,h',tk',us',rfl,hS',fun u hu'=>?_,fun u hu'=>?_,fun b o hb e=>hm.heap b o ?_ (ao _ (ao _ e))⟩
     ·obtain ⟨m,h1,rfl⟩:=hks1 u hu'
      obtain ⟨v,hv,e1,e2⟩:=hat m h1
      rw [e1];exact hv
     ·obtain ⟨m,hm'⟩:=gi.mp hu'
      have h1:m<items.size:=by rw [hlen];exact (ai.mp hm').1
      have:=hks2 m h1
      try dsimp only at this
      rw [aj,hm'] at this
      exact this
     ·rw [jc]
      simp only [bj,ng,or_false,not_or]
      exact ⟨d0 hb,d0 (jm hb)⟩
   ·cases r2 with
    | error e=>exact hr2
    | ok fl2=>
     cases fl2 with
     | ret r=>
      obtain ⟨rfl,h',tk,us,rfl,hd⟩:=hr2
      repeat (any_goals (first | assumption | wp_step))
      exact h _ _ _ hd.1 hd.2.1 hd.2.2.1 hd.2.2.2
     | _=>exact hr2.elim
  | _=>exact hr.elim
end
section
variable {X:Cx}
def aEz (w:World) (K:ae):List V->Hp->VK->Prop:=fun vs H Q=>∃ (a:Addr) (xs:List V) (R:List (List Int)),vs=[.ref a]/\SqL K H a xs/\Rows K H xs R/\(∀ r∈R,r∈K28)/\∀ (p:Addr) (us:Us),H p=none->(us.map (·.1)).Nodup->(∀ r,r∈us.map (·.1)↔r∈R)->aHS K H us->Q (.ref p) (upd H p (.ext (aAe w p us)))
theorem aAp (hc:X.calm=true)(hu:X.A.units+20<cLine):CallR X (.type "set") (aEz X.w X.K):=by
 intro pins s σ H xs us Q I r ⟨a,ys,R,e,ha,hR,h8,q⟩
 subst e
 obtain ⟨u,rfl,ru⟩:=r.one
 obtain rfl:u=Value.ref a:=ru
 obtain ⟨vs,rfl,rfl,hrow⟩:=aGx hR
 obtain ⟨its,rv,pl,hz⟩:=I.list ha
 have ei:=sJ rv
 subst ei
 have key:∀ v∈vs,ja (gq X.prog X.w) s.heap v.1 v.2:=fun v hv=>by
  obtain ⟨zs,rvs,⟨o,b1,b2,n,b3⟩,_⟩:=I.tuple (hrow v hv)
  exact ⟨o,zs.toArray,n,b1,b2,b3,by simpa using aEq (gA rvs)⟩
 refine vW (items:=(vs.map fun u:List Int × Addr=>Value.ref u.2).toArray) (vs:=vs) hu (I.ok.hd hc) pl.isList (by simp) key (fun v hv=>h8 _ (qe hv)) fun h' tk us' d1 d2 d3 d4=>?_
 obtain ⟨ep,mk,pls,mv,o1,o2,o3⟩:=id d1
 refine ⟨.ref s.heap.objs.size,_,I.laid (a:=s.heap.objs.size) (o := .ext (aAe X.w s.heap.objs.size us')) (fun b u e=>d4 b u (br e) e) (ay _) ⟨d1,⟨_,o1⟩,fun h1 h2 ⟨ep,mk,pls,mv,z1,z2⟩ k=>⟨ep,mk,pls,mv,k _ z1,z2⟩⟩,rfl,q _ _ (I.hok.fresh (ay _)) o2.nd (fun r=>⟨fun h=>?_,fun h=>?_⟩) fun u hu=>hrow u (d2 u hu)⟩
 ·obtain ⟨u,hu,rfl⟩:=cy.mp h
  exact qe (d2 u hu)
 ·obtain ⟨u,hu,rfl⟩:=cy.mp h
  exact d3 u hu
def aGK (K:ae):List V->Hp->VK->Prop:=fun vs H Q=>∃ (a:Addr) (xs:List V) (R:List (List Int)),vs=[.ref a]/\SqL K H a xs/\Rows K H xs R/\(∀ r∈R,r∈K28) /\
 ∀ (ys:List V) (R':List (List Int)),R'.Pairwise (fun a b=>fO b a=false)->R'.Nodup->(∀ r,r∈R'↔r∈R)->∀ H',Same H H'->Rows K H' ys R'->∀ l,H' l=none->Q (.ref l) (upd H' l (.lst ys))
theorem aFQ {K:ae}{x y:Str}{p p' pos pos':Pos}{e:Expr}{es:List Expr}{t:TA}{k:Nat}(hK:X.K=K)(hc:X.calm=true)(hr:Room k X.A)(hg:Gl X x)(hm:X.mg x=none)(hv:fi x=some (.builtin "sorted"))(hg':Gl X y)(hm':X.mg y=none)(hv':fi y=some (.type "set"))(ha:PA X (e :: es) t)
  (hn:x≠"__name__":=by decide) (hdb:(x == ("__debug__" : Str))=false:=by decide) (hn':y≠"__name__":=by decide) (hdb':(y == ("__debug__" : Str))=false:=by decide)
  (he:fm (e :: es) X.env=(false,eval e X.env) :: fm es X.env:=by rfl) (hpl:(vg pos' (fm es X.env)).any (·.1)=false:=by rfl):PE X (.Call (.Name x p) [.Call (.Name y p') (e :: es) [] pos'] [] pos) (tCB (aGK K) t):=by
 subst hK
 have hu:X.A.units+20<cLine:=by have:=aGB hr;omega
 have h1:PE X (.Call (.Name x p) [.Call (.Name y p') (e :: es) [] pos'] [] pos) (tCB (aEw X.w X.K) (aB (tCB (aEz X.w X.K) (tCl t)) aQ)):=aN (aAi hc) hg hm hv (bA (cD (aAp hc hu) hg' hm' hv' (aIN ha) hn' hdb' he hpl) aD) hn hdb
 intro pins s σ H Q I h
 refine h1 pins s σ H Q I ⟨_,h,fun vs H1 ⟨a,xs,R,e1,e2,e3,e4,e5⟩=>⟨a,xs,R,e1,e2,e3,e4,fun p us hp nd hm hrow=>?_⟩⟩
 have sp:=aJ hp (.ext (aAe X.w p us))
 refine ⟨p,us,rfl,aF,fun u hu=>sp.tup (hrow u hu),fun us' l hl pm srt=>?_⟩
 exact e5 _ _ srt ((pm.map _).nodup_iff.mpr nd) (fun r=>by rw [(pm.map (·.1)).mem_iff];exact hm r) _ sp (aFE fun u hu=>sp.tup (hrow u (pm.mem_iff.mp hu))) l hl
end
end L2
namespace K32
open PySem L2
def top (i:Nat):Stmt:=PySem.Challenge.pw_homeround_k32_trees_hung.main.body.getD i (.Pass ⟨0,0,0,0⟩)
section
variable {P:Program}{w:World}{K:ae}{mg:Str->Option Value}{base:Heap}{f:Addr}{fd:FuncData}
theorem wQ:bV ["top","bottom","measure"] ["top","bottom"] (aO (top 11)):=⟨rfl,rfl,rfl,by decide +kernel,rfl,by decide +kernel,by decide +kernel⟩
def zL (K:ae)  (bS:Sp):TS:=(aP (bU (bG bS [] E0 (aB (aE 0) (aB (aE 1) aQ))) (aL 2)) (aP (eD (bZ (tOp yLt (aE 1) (tC (.int 0)))) (aP (bU (tUn aJI (aE 2)) (aL 2)) aK) aK) (aP (fB (gW (aB (tOp pQ (aE 0) (aE 2)) (aB (tOp pQ (aE 1) (aE 2)) aQ)))) aK)))
theorem aBf (F:Fun K "lowest" "lowest" (top 11) f fd)(B:lJ mg)    {bS:Sp}(cM:Def P w K mg base "common_measure" 1 ["one","other"] bS)  {sp:Sp}(len:∀ vs H Q E,sp vs H Q E->vs.length=2)
  (rd:∀ vs H Q E,sp vs H Q E->zL K  bS { nx:=fun _ H'=>Q .non H',rt:=Q } (bW ["top","bottom","measure"] vs) H):FnOk P w K mg base CX0 2 f fd ["top","bottom"] sp:=by
 refine F.ok wQ len (fun cdv A outer s H vs Q E hr h=>⟨_,?_,rd vs H Q E h⟩)
 have nd:=wQ.nd
 exact (@aA _ _ _ _ _ (@aY _ _ 2 _ _ _ _ nd rfl (Or.inl rfl) (bH (cM.mono (by decide)) hr rfl (@aC _ _ _ _ _ _ (pv 0) (@aC _ _ _ _ _ _ (pv 1) aD))) (by rfl) (by first | exact .inl rfl | exact .inr rfl | assumption)) (@aA _ _ _ _ _ (@dG _ _ _ _ _ _ _ _ (bK uN (pv 1) aG (bX _)) (@aA _ _ _ _ _ (@aY _ _ 2 _ _ _ _ nd rfl (Or.inl rfl) (aIF aHE (pv 2)) (by rfl) (by first | exact .inl rfl | exact .inr rfl | assumption)) aI) aI) (@aA _ _ _ _ _ (@bP _ _ _ _ (@cJ _ _ _ _ _ (@cA _ _ _ _ _ _ _ _ (@aW _ _ _ _ _ _ _ _ gO (pv 0) (pv 2)) (@cA _ _ _ _ _ _ _ _ (@aW _ _ _ _ _ _ _ _ gO (pv 1) (pv 2)) aD)))) aI)))
theorem iE:bV ["one","other","left"] ["one","other"] (aO (top 12)):=⟨rfl,rfl,rfl,by decide +kernel,rfl,by decide +kernel,by decide +kernel⟩
def iY (K:ae)   : TS:=(aP (bU (tCB zT (aB (aE 0) aQ)) (aL 0)) (aP (bU (tCB zT (aB (aE 1) aQ)) (aL 1)) (aP (vD (bZ (tOp yGt (aE 1) (tC (.int 0)))) (aP (bU (tOp xD (aE 0) (aE 1)) (aL 2)) (aP (bU (aE 1) (aL 0)) (aP (bU (aE 2) (aL 1)) aK)))) (aP (fB (aE 0)) aK))))
theorem nB (F:Fun K "common_measure" "common_measure" (top 12) f fd)(B:lJ mg)      {sp:Sp}(len:∀ vs H Q E,sp vs H Q E->vs.length=2)
  (rd:∀ vs H Q E,sp vs H Q E->iY K   { nx:=fun _ H'=>Q .non H',rt:=Q } (bW ["one","other","left"] vs) H):FnOk P w K mg base CX0 1 f fd ["one","other"] sp:=by
 refine F.ok iE len (fun cdv A outer s H vs Q E hr h=>⟨_,?_,rd vs H Q E h⟩)
 have nd:=iE.nd
 exact (@aA _ _ _ _ _ (@aY _ _ 0 _ _ _ _ nd rfl (Or.inl rfl) (aN jN rfl B.abs vB (@aC _ _ _ _ _ _ (pv 0) aD)) (by rfl) (by first | exact .inl rfl | exact .inr rfl | assumption)) (@aA _ _ _ _ _ (@aY _ _ 1 _ _ _ _ nd rfl (Or.inl rfl) (aN jN rfl B.abs vB (@aC _ _ _ _ _ _ (pv 1) aD)) (by rfl) (by first | exact .inl rfl | exact .inr rfl | assumption)) (@aA _ _ _ _ _ (pC d6 (bK aAn (pv 1) aG (bX _)) (@aA _ _ _ _ _ (@aY _ _ 2 _ _ _ _ nd rfl (Or.inl rfl) (@aW _ _ _ _ _ _ _ _ jW (pv 0) (pv 1)) (by rfl) (by first | exact .inl rfl | exact .inr rfl | assumption)) (@aA _ _ _ _ _ (@aY _ _ 0 _ _ _ _ nd rfl (Or.inl rfl) (pv 1) (by rfl) (by first | exact .inl rfl | exact .inr rfl | assumption)) (@aA _ _ _ _ _ (@aY _ _ 1 _ _ _ _ nd rfl (Or.inl rfl) (pv 2) (by rfl) (by first | exact .inl rfl | exact .inr rfl | assumption)) aI)))) (@aA _ _ _ _ _ (@bP _ _ _ _ (pv 0)) aI))))
theorem jA:bV ["some","common","top","bottom"] ["some"] (aO (top 13)):=⟨rfl,rfl,rfl,by decide +kernel,rfl,by decide +kernel,by decide +kernel⟩
def jY (K:ae)  (bS:Sp):TS:=(aP (bU (tC (.int 1)) (aL 1)) (aP (mW (lD K (aE 0)) (qE K 2 (cO (aL 2) (cO (aL 3) rG))) (aP (bU (tOp dP (aE 1) (tOp pQ (aE 3) (bG bS [] E0 (aB (aE 1) (aB (aE 3) aQ))))) (aL 1)) aK)) (aP (fB (aE 1)) aK)))
theorem oO (F:Fun K "common_bottom" "common_bottom" (top 13) f fd)(B:lJ mg)    {bS:Sp}(cM:Def P w K mg base "common_measure" 1 ["one","other"] bS)  {sp:Sp}(len:∀ vs H Q E,sp vs H Q E->vs.length=1)
  (rd:∀ vs H Q E,sp vs H Q E->jY K  bS { nx:=fun _ H'=>Q .non H',rt:=Q } (bW ["some","common","top","bottom"] vs) H):FnOk P w K mg base CX0 2 f fd ["some"] sp:=by
 refine F.ok jA len (fun cdv A outer s H vs Q E hr h=>⟨_,?_,rd vs H Q E h⟩)
 have nd:=jA.nd
 exact (@aA _ _ _ _ _ (@aY _ _ 1 _ _ _ _ nd rfl (Or.inl rfl) aG (by rfl) (by first | exact .inl rfl | exact .inr rfl | assumption)) (@aA _ _ _ _ _ (dR d6 rfl (cG (K:=K) rfl (pv 0)) (dD (K:=K) rfl rfl (bC (aT (i:=2) nd rfl (Or.inl rfl)) (bC (aT (i:=3) nd rfl (Or.inl rfl)) dE))) (@aA _ _ _ _ _ (@aY _ _ 1 _ _ _ _ nd rfl (Or.inl rfl) (@aW _ _ _ _ _ _ _ _ cK (pv 1) (@aW _ _ _ _ _ _ _ _ gO (pv 3) (bH (cM.mono (by decide)) hr rfl (@aC _ _ _ _ _ _ (pv 1) (@aC _ _ _ _ _ _ (pv 3) aD))))) (by rfl) (by first | exact .inl rfl | exact .inr rfl | assumption)) aI)) (@aA _ _ _ _ _ (@bP _ _ _ _ (pv 1)) aI)))
theorem nV:bV ["some","bottom"] ["some","bottom"] (aO (top 14)):=⟨rfl,rfl,rfl,by decide +kernel,rfl,by decide +kernel,by decide +kernel⟩
def pZ (K:ae)   : TS:=(aP (fB (fU [none,none,some 1] (lD K (aE 0)) (qE K 2 (cO (aL 0) (cO (aL 1) rG))) [] fun acc=>(eX (tOp dP (aE 0) (tOp pQ (aE 2) (aE 1))) acc))) aK)
theorem vS (F:Fun K "tops_over" "tops_over" (top 14) f fd)(B:lJ mg)      {sp:Sp}(len:∀ vs H Q E,sp vs H Q E->vs.length=2)
  (rd:∀ vs H Q E,sp vs H Q E->pZ K   { nx:=fun _ H'=>Q .non H',rt:=Q } (bW ["some","bottom"] vs) H):FnOk P w K mg base CX0 1 f fd ["some","bottom"] sp:=by
 refine F.ok nV len (fun cdv A outer s H vs Q E hr h=>⟨_,?_,rd vs H Q E h⟩)
 have nd:=nV.nd
 exact (@aA _ _ _ _ _ (@bP _ _ _ _ (dQ (N':=["top","own","bottom"]) (ix:=[none,none,some 1]) rfl rfl rfl (cG (K:=K) rfl (pv 0)) (fun _ _ _=>(dD (K:=K) rfl rfl (bC (aT (i:=0) (show (["top","own","bottom"]:List Str).Nodup from by decide +kernel) rfl (Or.inl rfl)) (bC (aT (i:=1) (show (["top","own","bottom"]:List Str).Nodup from by decide +kernel) rfl (Or.inl rfl)) dE)))) (fun _ _ _ => .nil) (fun _ _ _ _=>(cS rfl (@aW _ _ _ _ _ _ _ _ cK (pv 0) (@aW _ _ _ _ _ _ _ _ gO (pv 2) (pv 1))) rfl)))) aI)
theorem tD:bV ["table","many"] ["table"] (aO (top 16)):=⟨rfl,rfl,rfl,by decide +kernel,rfl,by decide +kernel,by decide +kernel⟩
def wB (K:ae)   : TS:=(aP (bU (tCB (jH K) (aB (aE 0) aQ)) (aL 1)) (aP (fB (tCB (aJi K) (aB (fU [none,none,some 0] (lQ (aB (aE 1) aQ)) (aL 0) [] fun acc=>(mW (lQ (aB (aE 0) aQ)) (aL 1) (kR [] (eX (tOp (gX K) (tOp (bF K) (tOp (bF K) (aE 2) (aE 0)) (aE 1)) (tOp (bF K) (tOp (bF K) (aE 2) (aE 1)) (aE 0))) acc)))) aQ))) aK))
theorem aAK (F:Fun K "is_even" "is_even" (top 16) f fd)(B:lJ mg)      {sp:Sp}(len:∀ vs H Q E,sp vs H Q E->vs.length=1)
  (rd:∀ vs H Q E,sp vs H Q E->wB K   { nx:=fun _ H'=>Q .non H',rt:=Q } (bW ["table","many"] vs) H):FnOk P w K mg base CX0 1 f fd ["table"] sp:=by
 refine F.ok tD len (fun cdv A outer s H vs Q E hr h=>⟨_,?_,rd vs H Q E h⟩)
 have nd:=tD.nd
 exact (@aA _ _ _ _ _ (@aY _ _ 1 _ _ _ _ nd rfl (Or.inl rfl) (aN (aZ (K:=K) rfl) rfl B.len cI (@aC _ _ _ _ _ _ (pv 0) aD)) (by rfl) (by first | exact .inl rfl | exact .inr rfl | assumption)) (@aA _ _ _ _ _ (@bP _ _ _ _ (aN (aBN (K:=K) rfl rfl) rfl B.all aGS (cW (dQ (N':=["i","j","table"]) (ix:=[none,none,some 0]) rfl rfl rfl (dA rfl B.range (@aC _ _ _ _ _ _ (pv 1) aD)) (fun _ _ _=>(aT (i:=0) (show (["i","j","table"]:List Str).Nodup from by decide +kernel) rfl (Or.inl rfl))) (fun _ _ _ => .nil) (fun _ _ _ _=>(aCb rfl rfl rfl (fun _ h=>by first | (cases h;rfl) | cases h) (dA rfl B.range (@aC _ _ _ _ _ _ (pv 0) aD)) (aT (i:=1) (show (["i","j","table"]:List Str).Nodup from by decide +kernel) rfl (Or.inl rfl)) .nil (cS rfl (iH (fL (K:=K) rfl hr) (@bD _ _ _ _ _ _ _ (aU (K:=K) rfl) (@bD _ _ _ _ _ _ _ (aU (K:=K) rfl) (pv 2) (pv 0) (fun _ _=>rfl)) (pv 1) (fun _ _=>rfl)) (@bD _ _ _ _ _ _ _ (aU (K:=K) rfl) (@bD _ _ _ _ _ _ _ (aU (K:=K) rfl) (pv 2) (pv 1) (fun _ _=>rfl)) (pv 0) (fun _ _=>rfl)) (bX _)) rfl)))) aD))) aI))
theorem lU:bV ["table","ties","inside","outside","way","one","other"] ["table"] (aO (top 18)):=⟨rfl,rfl,rfl,by decide +kernel,rfl,by decide +kernel,by decide +kernel⟩
def oG (K:ae) (C_NotEven:Addr) (E:XK) (dL:Sp) (iO:Sp):TS:=(aP (eD (uF (tB (bG dL [] E0 (aB (aE 0) aQ)))) (aP (vZ C_NotEven E) aK) aK) (aP (bU (oR aQ) (aL 1)) (aP (bU (oR (aB (tC (.int 0)) aQ)) (aL 2)) (aP (bU (tCB (xT K) (aB (tCB aIM (aB (tC (.int 1)) (aB (tCB (jH K) (aB (aE 0) aQ)) aQ))) aQ)) (aL 3)) (aP (vD (aHV K (aE 3)) (aP (bU (tCB (aDN K) (aB (fU [none,none,some 3,some 0] (lD K (aE 2)) (aL 0) [] fun acc=>(mW (lD K (aE 2)) (aL 1) (kR [] (eX (gW (aB (tOp (bF K) (tOp (bF K) (aE 3) (aE 0)) (aE 1)) (aB (aE 0) (aB (aE 1) aQ)))) acc)))) aQ)) (qE K 3 (cO (aL 4) (cO (aL 5) (cO (aL 6) rG))))) (aP (jD (tBM K "list" eJ (aE 1) (aB (gW (aB (tCB qK (aB (aE 5) (aB (aE 6) aQ))) (aB (tCB aFm (aB (aE 5) (aB (aE 6) aQ))) aQ))) aQ))) (aP (jD (tBM K "list" eJ (aE 2) (aB (aE 6) aQ))) (aP (jD (tBM K "list" aGR (aE 3) (aB (aE 6) aQ))) aK))))) (aP (fB (gW (aB (bG iO [] E0 (aB (aE 0) (aB (aE 1) aQ))) (aB (tCB (sS K) (aB (aE 1) aQ)) aQ)))) aK))))))
theorem tV (F:Fun K "least_tree" "least_tree" (top 18) f fd)(B:lJ mg)  {C_NotEven:Addr}(GC_NotEven:mg "NotEven" = some (.ref C_NotEven))(XC_NotEven:ku K C_NotEven aFy "ValueError.__new__" = true){dL:Sp}(iF:Def P w K mg base "is_even" 1 ["table"] dL){iO:Sp}(nM:Def P w K mg base "tree_sum" 1 ["table","ties"] iO)  {sp:Sp}(len:∀ vs H Q E,sp vs H Q E->vs.length=1)
  (rd:∀ vs H Q E,sp vs H Q E->oG K C_NotEven E dL iO { nx:=fun _ H'=>Q .non H',rt:=Q } (bW ["table","ties","inside","outside","way","one","other"] vs) H):FnOk P w K mg base (sU P w) 2 f fd ["table"] sp:=by
 refine F.okX lU len (fun cdv A outer s H vs Q E hr h=>⟨_,?_,rd vs H Q E h⟩)
 have nd:=lU.nd
 exact (@aA _ _ _ _ _ (@dG _ _ _ _ _ _ _ _ (PT.nox (fN (fM (bH (iF.mono (by decide)) hr rfl (@aC _ _ _ _ _ _ (pv 0) aD))))) (@aA _ _ _ _ _ (pP (K:=K) rfl mU rfl rfl GC_NotEven XC_NotEven) aI) aI) (@aA _ _ _ _ _ (PS.nox (@aY _ _ 1 _ _ _ _ nd rfl (Or.inl rfl) (@fS _ _ _ _ aD) (by rfl) (by first | exact .inl rfl | exact .inr rfl | assumption))) (@aA _ _ _ _ _ (PS.nox (@aY _ _ 2 _ _ _ _ nd rfl (Or.inl rfl) (@fS _ _ _ _ (@aV _ _ _ _ _ _ _ aG aD)) (by rfl) (by first | exact .inl rfl | exact .inr rfl | assumption))) (@aA _ _ _ _ _ (PS.nox (@aY _ _ 3 _ _ _ _ nd rfl (Or.inr rfl) (cD (gB (K:=K) rfl rfl) rfl B.list jV (@bA _ _ _ _ _ _ _ _ (cD wS rfl B.range zG (@aV _ _ _ _ _ _ _ aG (@bA _ _ _ _ _ _ _ _ (aN (aZ (K:=K) rfl) rfl B.len cI (@aC _ _ _ _ _ _ (pv 0) aD)) aD))) aD)) (by rfl) (by first | exact .inl rfl | exact .inr rfl | assumption))) (@aA _ _ _ _ _ (PS.nox (pC d6 (aCJ (K:=K) rfl (pv 3) (fun _=>rfl)) (@aA _ _ _ _ _ (jB (aN (nE (K:=K) rfl hr rfl) rfl B.min qZ (cW (dQ (N':=["one","other","outside","table"]) (ix:=[none,none,some 3,some 0]) rfl rfl rfl (cG (K:=K) rfl (pv 2)) (fun _ _ _=>(aT (i:=0) (show (["one","other","outside","table"]:List Str).Nodup from by decide +kernel) rfl (Or.inl rfl))) (fun _ _ _ => .nil) (fun _ _ _ _=>(aCb rfl rfl rfl (fun _ h=>by first | (cases h;rfl) | cases h) (cG (K:=K) rfl (pv 2)) (aT (i:=1) (show (["one","other","outside","table"]:List Str).Nodup from by decide +kernel) rfl (Or.inl rfl)) .nil (cS rfl (@cJ _ _ _ _ _ (@bO _ _ _ _ _ _ _ (@bD _ _ _ _ _ _ _ (aU (K:=K) rfl) (@bD _ _ _ _ _ _ _ (aU (K:=K) rfl) (pv 3) (pv 0) (fun _ _=>rfl)) (pv 1) (fun _ _=>rfl)) (@aC _ _ _ _ _ _ (pv 0) (@aC _ _ _ _ _ _ (pv 1) aD)))) rfl)))) aD)) (dD (K:=K) rfl rfl (bC (aT (i:=4) nd rfl (Or.inl rfl)) (bC (aT (i:=5) nd rfl (Or.inl rfl)) (bC (aT (i:=6) nd rfl (Or.inl rfl)) dE))))) (@aA _ _ _ _ _ (fP (jG (K:=K) rfl fh gv gw eN (pv 1) (@cY _ _ _ _ _ _ _ (@cJ _ _ _ _ _ (@bA _ _ _ _ _ _ _ _ (aN (kE rfl) rfl B.min qZ (@aC _ _ _ _ _ _ (pv 5) (@aC _ _ _ _ _ _ (pv 6) aD))) (@bA _ _ _ _ _ _ _ _ (aN (sI rfl) rfl B.max aEp (@aC _ _ _ _ _ _ (pv 5) (@aC _ _ _ _ _ _ (pv 6) aD))) aD))) aD))) (@aA _ _ _ _ _ (fP (jG (K:=K) rfl fh gv gw eN (pv 2) (@aC _ _ _ _ _ _ (pv 6) aD))) (@aA _ _ _ _ _ (fP (jG (K:=K) rfl fh PySem.F.slot_list_remove PySem.F.type_list_remove aFP (pv 3) (@aC _ _ _ _ _ _ (pv 6) aD))) aI)))))) (@aA _ _ _ _ _ (PS.nox (@bP _ _ _ _ (@cJ _ _ _ _ _ (@bA _ _ _ _ _ _ _ _ (bH (nM.mono (by decide)) hr rfl (@aC _ _ _ _ _ _ (pv 0) (@aC _ _ _ _ _ _ (pv 1) aD))) (@bA _ _ _ _ _ _ _ _ (aN (gH (K:=K) rfl) rfl B.sorted iC (@aC _ _ _ _ _ _ (pv 1) aD)) aD))))) aI))))))
theorem pI:bV ["table","ties"] ["table","ties"] (aO (top 19)):=⟨rfl,rfl,rfl,by decide +kernel,rfl,by decide +kernel,by decide +kernel⟩
def sY (K:ae)   : TS:=(aP (fB (tCB (aHA K) (aB (fU [none,none,some 0] (lD K (aE 1)) (qE K 2 (cO (aL 0) (cO (aL 1) rG))) [] fun acc=>(eX (tOp (bF K) (tOp (bF K) (aE 2) (aE 0)) (aE 1)) acc)) aQ))) aK)
theorem xO (F:Fun K "tree_sum" "tree_sum" (top 19) f fd)(B:lJ mg)      {sp:Sp}(len:∀ vs H Q E,sp vs H Q E->vs.length=2)
  (rd:∀ vs H Q E,sp vs H Q E->sY K   { nx:=fun _ H'=>Q .non H',rt:=Q } (bW ["table","ties"] vs) H):FnOk P w K mg base CX0 1 f fd ["table","ties"] sp:=by
 refine F.ok pI len (fun cdv A outer s H vs Q E hr h=>⟨_,?_,rd vs H Q E h⟩)
 have nd:=pI.nd
 exact (@aA _ _ _ _ _ (@bP _ _ _ _ (aN (mO (K:=K) rfl rfl) rfl B.sum zY (cW (dQ (N':=["i","j","table"]) (ix:=[none,none,some 0]) rfl rfl rfl (cG (K:=K) rfl (pv 1)) (fun _ _ _=>(dD (K:=K) rfl rfl (bC (aT (i:=0) (show (["i","j","table"]:List Str).Nodup from by decide +kernel) rfl (Or.inl rfl)) (bC (aT (i:=1) (show (["i","j","table"]:List Str).Nodup from by decide +kernel) rfl (Or.inl rfl)) dE)))) (fun _ _ _ => .nil) (fun _ _ _ _=>(cS rfl (@bD _ _ _ _ _ _ _ (aU (K:=K) rfl) (@bD _ _ _ _ _ _ _ (aU (K:=K) rfl) (pv 2) (pv 0) (fun _ _=>rfl)) (pv 1) (fun _ _=>rfl)) rfl))) aD))) aI)
theorem aBr:bV ["table","prices","bottom","tops","counts","count","ties","at_home","all_ties","whole"] ["table","prices"] (aO (top 21)):=⟨rfl,rfl,rfl,by decide +kernel,rfl,by decide +kernel,by decide +kernel⟩
def aEt (K:ae) (C_NotEven:Addr) (C_TooFew:Addr) (E:XK) (dZ:Sp) (kF:Sp) (dL:Sp) (mT:Sp) (gP:Sp) (fX:Sp):TS:=(aP (eD (uF (tB (bG dL [] E0 (aB (aE 0) aQ)))) (aP (vZ C_NotEven E) aK) aK) (aP (eD (bZ (tOp yLt (tCB (jH K) (aB (aE 0) aQ)) (tC (.int 3)))) (aP (vZ C_TooFew E) aK) aK) (aP (bU (bG dZ [] E0 (aB (aE 1) aQ)) (aL 2)) (aP (bU (bG gP [] E0 (aB (aE 1) (aB (aE 2) aQ))) (aL 3)) (aP (bU (bG kF [] E0 (aB (aE 0) (aB (aE 3) (aB (aE 2) aQ)))) (aL 4)) (aP (bU (bG fX [] E (aB (tCB (kQ K) (aB (fU [none] (lD K (tSl (uX K) (aE 4) (jC (tC (.int 1))) dF)) (aL 0) [] fun acc=>(eX (tSl (uX K) (aE 0) (jC (tC (.int 1))) dF) acc)) aQ)) aQ)) (qE K 2 (cO (aL 5) (cO (aL 6) rG)))) (aP (bU (tSl (uX K) (tCB (sS K) (aB (fU [none,some 4] (aCV (aB (tC (.int 1)) (aB (tCB (jH K) (aB (aE 0) aQ)) aQ))) (aL 0) [] fun acc=>(eX (gW (aB (tOp (bF K) (tOp (bF K) (aE 1) (tC (.int 0))) (aE 0)) (aB (aE 0) aQ))) acc)) aQ)) dF (jC (tC (.int 2)))) (aL 7)) (aP (bU (tOp (bQ K) (fU [none,none] (lD K (aE 7)) (qE K 2 (cO (aL 0) (cO (aL 1) rG))) [] fun acc=>(eX (gW (aB (tC (.int 0)) (aB (aE 1) aQ))) acc)) (fU [none,none] (lD K (aE 6)) (qE K 2 (cO (aL 0) (cO (aL 1) rG))) [] fun acc=>(eX (gW (aB (tOp (bQ K) (aE 0) (tC (.int 1))) (aB (tOp (bQ K) (aE 1) (tC (.int 1))) aQ))) acc))) (aL 8)) (aP (bU (tOp (bQ K) (tOp (bQ K) (aE 5) (tCB (aHA K) (aB (fU [none,none] (lD K (aE 7)) (qE K 2 (cO (aL 0) (cO (aL 1) rG))) [] fun acc=>(eX (aE 0) acc)) aQ))) (tOp dP (tC (.int 2)) (tCB (aHA K) (aB (aE 3) aQ)))) (aL 9)) (aP (fB (gW (aB (bG mT [] E0 (aB (aE 9) (aB (aE 2) aQ))) (aB (tCB (sS K) (aB (aE 8) aQ)) aQ)))) aK))))))))))
theorem aEY (F:Fun K "hung" "hung" (top 21) f fd)(B:lJ mg)  {C_NotEven:Addr}(GC_NotEven:mg "NotEven" = some (.ref C_NotEven)){C_TooFew:Addr}(GC_TooFew:mg "TooFew" = some (.ref C_TooFew))(XC_NotEven:ku K C_NotEven aFy "ValueError.__new__" = true)(XC_TooFew:ku K C_TooFew aFy "ValueError.__new__" = true){dZ:Sp}(gK:Def P w K mg base "common_bottom" 2 ["some"] dZ){kF:Sp}(rB:Def P w K mg base "counted" 1 ["table","tops","bottom"] kF){dL:Sp}(iF:Def P w K mg base "is_even" 1 ["table"] dL){mT:Sp}(uV:Def P w K mg base "lowest" 2 ["top","bottom"] mT){gP:Sp}(lI:Def P w K mg base "tops_over" 1 ["some","bottom"] gP){fX:Sp}(iP:DefX P w K mg base "least_tree" 2 ["table"] fX){sp:Sp}(len:∀ vs H Q E,sp vs H Q E->vs.length=2)
  (rd:∀ vs H Q E,sp vs H Q E->aEt K C_NotEven C_TooFew E dZ kF dL mT gP fX { nx:=fun _ H'=>Q .non H',rt:=Q } (bW ["table","prices","bottom","tops","counts","count","ties","at_home","all_ties","whole"] vs) H):FnOk P w K mg base (sU P w) 3 f fd ["table","prices"] sp:=by
 refine F.okX aBr len (fun cdv A outer s H vs Q E hr h=>⟨_,?_,rd vs H Q E h⟩)
 have nd:=aBr.nd
 exact (@aA _ _ _ _ _ (@dG _ _ _ _ _ _ _ _ (PT.nox (fN (fM (bH (iF.mono (by decide)) hr rfl (@aC _ _ _ _ _ _ (pv 0) aD))))) (@aA _ _ _ _ _ (pP (K:=K) rfl mU rfl rfl GC_NotEven XC_NotEven) aI) aI) (@aA _ _ _ _ _ (@dG _ _ _ _ _ _ _ _ (PT.nox (bK uN (aN (aZ (K:=K) rfl) rfl B.len cI (@aC _ _ _ _ _ _ (pv 0) aD)) aG (bX _))) (@aA _ _ _ _ _ (pP (K:=K) rfl mU rfl rfl GC_TooFew XC_TooFew) aI) aI) (@aA _ _ _ _ _ (PS.nox (@aY _ _ 2 _ _ _ _ nd rfl (Or.inl rfl) (bH (gK.mono (by decide)) hr rfl (@aC _ _ _ _ _ _ (pv 1) aD)) (by rfl) (by first | exact .inl rfl | exact .inr rfl | assumption))) (@aA _ _ _ _ _ (PS.nox (@aY _ _ 3 _ _ _ _ nd rfl (Or.inl rfl) (bH (lI.mono (by decide)) hr rfl (@aC _ _ _ _ _ _ (pv 1) (@aC _ _ _ _ _ _ (pv 2) aD))) (by rfl) (by first | exact .inl rfl | exact .inr rfl | assumption))) (@aA _ _ _ _ _ (PS.nox (@aY _ _ 4 _ _ _ _ nd rfl (Or.inr rfl) (bH (rB.mono (by decide)) hr rfl (@aC _ _ _ _ _ _ (pv 0) (@aC _ _ _ _ _ _ (pv 3) (@aC _ _ _ _ _ _ (pv 2) aD)))) (by rfl) (by first | exact .inl rfl | exact .inr rfl | assumption))) (@aA _ _ _ _ _ (jB (yK (iP.mono (by decide)) hr rfl aAs (@bA _ _ _ _ _ _ _ _ (cD (eB (K:=K) rfl) rfl B.tuple fA (cW (dQ (N':=["row"]) (ix:=[none]) rfl rfl rfl (cG (K:=K) rfl (fD (sG (K:=K) rfl) (pv 4) (gU aG) gT)) (fun _ _ _=>(aT (i:=0) (show (["row"]:List Str).Nodup from by decide +kernel) rfl (Or.inl rfl))) (fun _ _ _ => .nil) (fun _ _ _ _=>(cS rfl (fD (sG (K:=K) rfl) (pv 0) (gU aG) gT) rfl))) aD)) aD)) (dD (K:=K) rfl rfl (bC (aT (i:=5) nd rfl (Or.inl rfl)) (bC (aT (i:=6) nd rfl (Or.inl rfl)) dE)))) (@aA _ _ _ _ _ (PS.nox (@aY _ _ 7 _ _ _ _ nd rfl (Or.inl rfl) (fD (sG (K:=K) rfl) (aN (gH (K:=K) rfl) rfl B.sorted iC (cW (dQ (N':=["place","counts"]) (ix:=[none,some 4]) rfl rfl rfl (qB rfl B.range (@aV _ _ _ _ _ _ _ aG (@bA _ _ _ _ _ _ _ _ (aN (aZ (K:=K) rfl) rfl B.len cI (@aC _ _ _ _ _ _ (pv 0) aD)) aD))) (fun _ _ _=>(aT (i:=0) (show (["place","counts"]:List Str).Nodup from by decide +kernel) rfl (Or.inl rfl))) (fun _ _ _ => .nil) (fun _ _ _ _=>(cS rfl (@cJ _ _ _ _ _ (@bO _ _ _ _ _ _ _ (@bD _ _ _ _ _ _ _ (aU (K:=K) rfl) (@bD _ _ _ _ _ _ _ (aU (K:=K) rfl) (pv 1) aG (fun _ _=>rfl)) (pv 0) (fun _ _=>rfl)) (@aC _ _ _ _ _ _ (pv 0) aD))) rfl))) aD)) gT (gU aG)) (by rfl) (by first | exact .inl rfl | exact .inr rfl | assumption))) (@aA _ _ _ _ _ (PS.nox (@aY _ _ 8 _ _ _ _ nd rfl (Or.inl rfl) (@aW _ _ _ _ _ _ _ _ (bJ (K:=K) rfl) (dQ (N':=["own","place"]) (ix:=[none,none]) rfl rfl rfl (cG (K:=K) rfl (pv 7)) (fun _ _ _=>(dD (K:=K) rfl rfl (bC (aT (i:=0) (show (["own","place"]:List Str).Nodup from by decide +kernel) rfl (Or.inl rfl)) (bC (aT (i:=1) (show (["own","place"]:List Str).Nodup from by decide +kernel) rfl (Or.inl rfl)) dE)))) (fun _ _ _ => .nil) (fun _ _ _ _=>(cS rfl (@cJ _ _ _ _ _ (@aV _ _ _ _ _ _ _ aG (@aC _ _ _ _ _ _ (pv 1) aD))) rfl))) (dQ (N':=["i","j"]) (ix:=[none,none]) rfl rfl rfl (cG (K:=K) rfl (pv 6)) (fun _ _ _=>(dD (K:=K) rfl rfl (bC (aT (i:=0) (show (["i","j"]:List Str).Nodup from by decide +kernel) rfl (Or.inl rfl)) (bC (aT (i:=1) (show (["i","j"]:List Str).Nodup from by decide +kernel) rfl (Or.inl rfl)) dE)))) (fun _ _ _ => .nil) (fun _ _ _ _=>(cS rfl (@cJ _ _ _ _ _ (@cA _ _ _ _ _ _ _ _ (@aW _ _ _ _ _ _ _ _ (bJ (K:=K) rfl) (pv 0) aG) (@cA _ _ _ _ _ _ _ _ (@aW _ _ _ _ _ _ _ _ (bJ (K:=K) rfl) (pv 1) aG) aD))) rfl)))) (by rfl) (by first | exact .inl rfl | exact .inr rfl | assumption))) (@aA _ _ _ _ _ (PS.nox (@aY _ _ 9 _ _ _ _ nd rfl (Or.inl rfl) (@aW _ _ _ _ _ _ _ _ (bJ (K:=K) rfl) (@aW _ _ _ _ _ _ _ _ (bJ (K:=K) rfl) (pv 5) (aN (mO (K:=K) rfl rfl) rfl B.sum zY (cW (dQ (N':=["own","place"]) (ix:=[none,none]) rfl rfl rfl (cG (K:=K) rfl (pv 7)) (fun _ _ _=>(dD (K:=K) rfl rfl (bC (aT (i:=0) (show (["own","place"]:List Str).Nodup from by decide +kernel) rfl (Or.inl rfl)) (bC (aT (i:=1) (show (["own","place"]:List Str).Nodup from by decide +kernel) rfl (Or.inl rfl)) dE)))) (fun _ _ _ => .nil) (fun _ _ _ _=>(cS rfl (pv 0) rfl))) aD))) (@aW _ _ _ _ _ _ _ _ cK aG (aN (mO (K:=K) rfl rfl) rfl B.sum zY (@aC _ _ _ _ _ _ (pv 3) aD)))) (by rfl) (by first | exact .inl rfl | exact .inr rfl | assumption))) (@aA _ _ _ _ _ (PS.nox (@bP _ _ _ _ (@cJ _ _ _ _ _ (@bA _ _ _ _ _ _ _ _ (bH (uV.mono (by decide)) hr rfl (@aC _ _ _ _ _ _ (pv 9) (@aC _ _ _ _ _ _ (pv 2) aD))) (@bA _ _ _ _ _ _ _ _ (aN (gH (K:=K) rfl) rfl B.sorted iC (@aC _ _ _ _ _ _ (pv 8) aD)) aD))))) aI))))))))))
theorem sZ:bV ["table","tops","bottom"] ["table","tops","bottom"] (aO (top 22)):=⟨rfl,rfl,rfl,by decide +kernel,rfl,by decide +kernel,by decide +kernel⟩
def wP (K:ae)   : TS:=(aP (fB (fU [none,none,some 2,some 1] (aDw K (aB (aE 0) aQ)) (qE K 2 (cO (aL 0) (cO (aL 1) rG))) [] fun acc=>(eX (tCB (kQ K) (aB (fU [none,none,some 0,some 2,some 3] (aDw K (aB (aE 1) aQ)) (qE K 2 (cO (aL 0) (cO (aL 1) rG))) [] fun acc=>(eX (tIf (bZ (tOp (xH K) (aE 2) (aE 0))) (tOp iW (tOp iW (tOp dP (aE 1) (aE 3)) (tOp (bF K) (aE 4) (aE 2))) (tOp (bF K) (aE 4) (aE 0))) (tC (.int 0))) acc)) aQ)) acc))) aK)
theorem aAo (F:Fun K "counted" "counted" (top 22) f fd)(B:lJ mg)      {sp:Sp}(len:∀ vs H Q E,sp vs H Q E->vs.length=3)
  (rd:∀ vs H Q E,sp vs H Q E->wP K   { nx:=fun _ H'=>Q .non H',rt:=Q } (bW ["table","tops","bottom"] vs) H):FnOk P w K mg base CX0 1 f fd ["table","tops","bottom"] sp:=by
 refine F.ok sZ len (fun cdv A outer s H vs Q E hr h=>⟨_,?_,rd vs H Q E h⟩)
 have nd:=sZ.nd
 exact (@aA _ _ _ _ _ (@bP _ _ _ _ (dQ (N':=["i","row","bottom","tops"]) (ix:=[none,none,some 2,some 1]) rfl rfl rfl (zC (K:=K) rfl rfl B.enumerate (@aC _ _ _ _ _ _ (pv 0) aD)) (fun _ _ _=>(dD (K:=K) rfl rfl (bC (aT (i:=0) (show (["i","row","bottom","tops"]:List Str).Nodup from by decide +kernel) rfl (Or.inr rfl)) (bC (aT (i:=1) (show (["i","row","bottom","tops"]:List Str).Nodup from by decide +kernel) rfl (Or.inl rfl)) dE)))) (fun _ _ _ => .nil) (fun _ _ _ _=>(cS rfl (cD (eB (K:=K) rfl) rfl B.tuple fA (cW (dQ (N':=["j","way","i","bottom","tops"]) (ix:=[none,none,some 0,some 2,some 3]) rfl rfl rfl (zC (K:=K) rfl rfl B.enumerate (@aC _ _ _ _ _ _ (pv 1) aD)) (fun _ _ _=>(dD (K:=K) rfl rfl (bC (aT (i:=0) (show (["j","way","i","bottom","tops"]:List Str).Nodup from by decide +kernel) rfl (Or.inl rfl)) (bC (aT (i:=1) (show (["j","way","i","bottom","tops"]:List Str).Nodup from by decide +kernel) rfl (Or.inl rfl)) dE)))) (fun _ _ _ => .nil) (fun _ _ _ _=>(cS rfl (aDl (bK (jJ (K:=K) rfl hr) (pv 2) (pv 0) (bX _)) (@aW _ _ _ _ _ _ _ _ eI (@aW _ _ _ _ _ _ _ _ eI (@aW _ _ _ _ _ _ _ _ cK (pv 1) (pv 3)) (@bD _ _ _ _ _ _ _ (aU (K:=K) rfl) (pv 4) (pv 2) (fun _ _=>rfl))) (@bD _ _ _ _ _ _ _ (aU (K:=K) rfl) (pv 4) (pv 0) (fun _ _=>rfl))) aG) rfl))) aD)) rfl)))) aI)
theorem kM:bV ["cell","at","one","two","three"] ["cell","at"] (aO (top 24)):=⟨rfl,rfl,rfl,by decide +kernel,rfl,by decide +kernel,by decide +kernel⟩
def lR (K:ae)   : TS:=(aP (bU (tOp xD (tOp (bQ K) (tOp (bQ K) (tOp dP (tOp xD (aE 0) (tC (.int 1000000007))) (tC (.int 69069))) (tOp dP (aE 1) (tC (.int 40503)))) (tC (.int 977))) (tC (.int 2147483629))) (aL 2)) (aP (bU (tOp xD (tOp (bQ K) (tOp (bQ K) (tOp dP (aE 2) (aE 2)) (tOp dP (aE 1) (tC (.int 7919)))) (tOp xD (aE 0) (tC (.int 65537)))) (tC (.int 2147483587))) (aL 3)) (aP (bU (tOp xD (tOp (bQ K) (tOp (bQ K) (tOp dP (aE 3) (aE 3)) (tOp dP (aE 2) (tC (.int 31)))) (tC (.int 5))) (tC (.int 2147483563))) (aL 4)) (aP (fB (tOp (bQ K) (tOp dP (tOp (bQ K) (tOp dP (aE 2) (tC (.int 2147483659))) (aE 3)) (tC (.int 2147483693))) (aE 4))) aK))))
theorem rR (F:Fun K "_law_cmixed" "_law_cmixed" (top 24) f fd)(B:lJ mg)      {sp:Sp}(len:∀ vs H Q E,sp vs H Q E->vs.length=2)
  (rd:∀ vs H Q E,sp vs H Q E->lR K   { nx:=fun _ H'=>Q .non H',rt:=Q } (bW ["cell","at","one","two","three"] vs) H):FnOk P w K mg base CX0 1 f fd ["cell","at"] sp:=by
 refine F.ok kM len (fun cdv A outer s H vs Q E hr h=>⟨_,?_,rd vs H Q E h⟩)
 have nd:=kM.nd
 exact (@aA _ _ _ _ _ (@aY _ _ 2 _ _ _ _ nd rfl (Or.inl rfl) (@aW _ _ _ _ _ _ _ _ jW (@aW _ _ _ _ _ _ _ _ (bJ (K:=K) rfl) (@aW _ _ _ _ _ _ _ _ (bJ (K:=K) rfl) (@aW _ _ _ _ _ _ _ _ cK (@aW _ _ _ _ _ _ _ _ jW (pv 0) aG) aG) (@aW _ _ _ _ _ _ _ _ cK (pv 1) aG)) aG) aG) (by rfl) (by first | exact .inl rfl | exact .inr rfl | assumption)) (@aA _ _ _ _ _ (@aY _ _ 3 _ _ _ _ nd rfl (Or.inl rfl) (@aW _ _ _ _ _ _ _ _ jW (@aW _ _ _ _ _ _ _ _ (bJ (K:=K) rfl) (@aW _ _ _ _ _ _ _ _ (bJ (K:=K) rfl) (@aW _ _ _ _ _ _ _ _ cK (pv 2) (pv 2)) (@aW _ _ _ _ _ _ _ _ cK (pv 1) aG)) (@aW _ _ _ _ _ _ _ _ jW (pv 0) aG)) aG) (by rfl) (by first | exact .inl rfl | exact .inr rfl | assumption)) (@aA _ _ _ _ _ (@aY _ _ 4 _ _ _ _ nd rfl (Or.inl rfl) (@aW _ _ _ _ _ _ _ _ jW (@aW _ _ _ _ _ _ _ _ (bJ (K:=K) rfl) (@aW _ _ _ _ _ _ _ _ (bJ (K:=K) rfl) (@aW _ _ _ _ _ _ _ _ cK (pv 3) (pv 3)) (@aW _ _ _ _ _ _ _ _ cK (pv 2) aG)) aG) aG) (by rfl) (by first | exact .inl rfl | exact .inr rfl | assumption)) (@aA _ _ _ _ _ (@bP _ _ _ _ (@aW _ _ _ _ _ _ _ _ (bJ (K:=K) rfl) (@aW _ _ _ _ _ _ _ _ cK (@aW _ _ _ _ _ _ _ _ (bJ (K:=K) rfl) (@aW _ _ _ _ _ _ _ _ cK (pv 2) aG) (pv 3)) aG) (pv 4))) aI))))
theorem lT:bV ["script"] ["script"] (aO (top 25)):=⟨rfl,rfl,rfl,by decide +kernel,rfl,by decide +kernel,by decide +kernel⟩
def nY (K:ae)   : TS:=(aP (fB (oR (aB (tCB (xT K) (aB (tSl (uX K) (aE 0) dF (jC (tC (.int 40)))) aQ)) (aB (tC (.int 0)) (aB (tC (.int 0)) aQ))))) aK)
theorem uM (F:Fun K "_law_copen" "_law_copen" (top 25) f fd)(B:lJ mg)      {sp:Sp}(len:∀ vs H Q E,sp vs H Q E->vs.length=1)
  (rd:∀ vs H Q E,sp vs H Q E->nY K   { nx:=fun _ H'=>Q .non H',rt:=Q } (bW ["script"] vs) H):FnOk P w K mg base CX0 1 f fd ["script"] sp:=by
 refine F.ok lT len (fun cdv A outer s H vs Q E hr h=>⟨_,?_,rd vs H Q E h⟩)
 have nd:=lT.nd
 exact (@aA _ _ _ _ _ (@bP _ _ _ _ (@fS _ _ _ _ (@bA _ _ _ _ _ _ _ _ (cD (gB (K:=K) rfl rfl) rfl B.list jV (@bO _ _ _ _ _ _ _ (fD (sG (K:=K) rfl) (pv 0) gT (gU aG)) aD)) (@aV _ _ _ _ _ _ _ aG (@aV _ _ _ _ _ _ _ aG aD))))) aI)
theorem mB:bV ["feed","many","at","cell","found"] ["feed","many"] (aO (top 26)):=⟨rfl,rfl,rfl,by decide +kernel,rfl,by decide +kernel,by decide +kernel⟩
def oD (K:ae)  (fG:Sp):TS:=(aP (eD (aGf (bZ (tOp yLt (tOp (bF K) (aE 0) (tC (.int 2))) (aE 1))) (bZ (tOp yGt (tCB (jH K) (aB (tOp (bF K) (aE 0) (tC (.int 0))) aQ)) (tC (.int 0))))) (aP (bU (tOp (bF K) (aE 0) (tC (.int 1))) (aL 2)) (aP (bU (tOp (bF K) (tOp (bF K) (aE 0) (tC (.int 0))) (tOp xD (aE 2) (tCB (jH K) (aB (tOp (bF K) (aE 0) (tC (.int 0))) aQ)))) (aL 3)) (aP (bU (tOp (bQ K) (aE 2) (tC (.int 1))) (oZ (aE 0) (tC (.int 1)) fV)) (aP (bU (aE 3) (oZ (aE 0) (tC (.int 2)) fV)) (aP (eD (tOr (bZ (tOp yLt (aE 3) (tOp oX (tC (.int 10)) (tC (.int 18))))) (bZ (tOp yGe (aE 2) (tCB (jH K) (aB (tOp (bF K) (aE 0) (tC (.int 0))) aQ))))) (aP (bU (bG fG [] E0 (aB (aE 3) (aB (aE 2) aQ))) (oZ (aE 0) (tC (.int 2)) fV)) aK) aK) aK))))) aK) (aP (bU (tOp xD (tOp (bF K) (aE 0) (tC (.int 2))) (aE 1)) (aL 4)) (aP (bU (tOp pQ (tOp (bF K) (aE 0) (tC (.int 2))) (aE 1)) (oZ (aE 0) (tC (.int 2)) fV)) (aP (fB (aE 4)) aK))))
theorem uR (F:Fun K "_law_cdraw" "_law_cdraw" (top 26) f fd)(B:lJ mg)    {fG:Sp}(iQ:Def P w K mg base "_law_cmixed" 1 ["cell","at"] fG)  {sp:Sp}(len:∀ vs H Q E,sp vs H Q E->vs.length=2)
  (rd:∀ vs H Q E,sp vs H Q E->oD K  fG { nx:=fun _ H'=>Q .non H',rt:=Q } (bW ["feed","many","at","cell","found"] vs) H):FnOk P w K mg base CX0 2 f fd ["feed","many"] sp:=by
 refine F.ok mB len (fun cdv A outer s H vs Q E hr h=>⟨_,?_,rd vs H Q E h⟩)
 have nd:=mB.nd
 exact (@aA _ _ _ _ _ (@dG _ _ _ _ _ _ _ _ (PW.pt (aAS (bK uN (@bD _ _ _ _ _ _ _ (aU (K:=K) rfl) (pv 0) aG (fun _ _=>rfl)) (pv 1) (bX _)) (yG (bK aAn (aN (aZ (K:=K) rfl) rfl B.len cI (@bO _ _ _ _ _ _ _ (@bD _ _ _ _ _ _ _ (aU (K:=K) rfl) (pv 0) aG (fun _ _=>rfl)) aD)) aG (bX _))))) (@aA _ _ _ _ _ (@aY _ _ 2 _ _ _ _ nd rfl (Or.inl rfl) (@bD _ _ _ _ _ _ _ (aU (K:=K) rfl) (pv 0) aG (fun _ _=>rfl)) (by rfl) (by first | exact .inl rfl | exact .inr rfl | assumption)) (@aA _ _ _ _ _ (@aY _ _ 3 _ _ _ _ nd rfl (Or.inl rfl) (@bD _ _ _ _ _ _ _ (aU (K:=K) rfl) (@bD _ _ _ _ _ _ _ (aU (K:=K) rfl) (pv 0) aG (fun _ _=>rfl)) (@aW _ _ _ _ _ _ _ _ jW (pv 2) (aN (aZ (K:=K) rfl) rfl B.len cI (@bO _ _ _ _ _ _ _ (@bD _ _ _ _ _ _ _ (aU (K:=K) rfl) (pv 0) aG (fun _ _=>rfl)) aD))) (fun _ _=>rfl)) (by rfl) (by first | exact .inl rfl | exact .inr rfl | assumption)) (@aA _ _ _ _ _ (jB (@aW _ _ _ _ _ _ _ _ (bJ (K:=K) rfl) (pv 2) aG) (qY (pv 0) aG iL)) (@aA _ _ _ _ _ (jB (pv 3) (qY (pv 0) aG iL)) (@aA _ _ _ _ _ (@dG _ _ _ _ _ _ _ _ (PW.pt (lV (bK uN (pv 3) (@aW _ _ _ _ _ _ _ _ nP aG aG) (bX _)) (jX (bK aIO (pv 2) (aN (aZ (K:=K) rfl) rfl B.len cI (@bO _ _ _ _ _ _ _ (@bD _ _ _ _ _ _ _ (aU (K:=K) rfl) (pv 0) aG (fun _ _=>rfl)) aD)) (bX _))))) (@aA _ _ _ _ _ (jB (bH (iQ.mono (by decide)) hr rfl (@aC _ _ _ _ _ _ (pv 3) (@aC _ _ _ _ _ _ (pv 2) aD))) (qY (pv 0) aG iL)) aI) aI) aI))))) aI) (@aA _ _ _ _ _ (@aY _ _ 4 _ _ _ _ nd rfl (Or.inl rfl) (@aW _ _ _ _ _ _ _ _ jW (@bD _ _ _ _ _ _ _ (aU (K:=K) rfl) (pv 0) aG (fun _ _=>rfl)) (pv 1)) (by rfl) (by first | exact .inl rfl | exact .inr rfl | assumption)) (@aA _ _ _ _ _ (jB (@aW _ _ _ _ _ _ _ _ gO (@bD _ _ _ _ _ _ _ (aU (K:=K) rfl) (pv 0) aG (fun _ _=>rfl)) (pv 1)) (qY (pv 0) aG iL)) (@aA _ _ _ _ _ (@bP _ _ _ _ (pv 4)) aI))))
theorem kS:bV ["thing"] ["thing"] (aO (top 27)):=⟨rfl,rfl,rfl,by decide +kernel,rfl,by decide +kernel,by decide +kernel⟩
def mH (K:ae)   : TS:=(aP (fB (aDi (tCB (aDy K) (aB (aE 0) (aB (tC (.ty "int")) aQ))) (aGu (tCB (aDy K) (aB (aE 0) (aB (tC (.ty "bool")) aQ)))))) aK)
theorem sC (F:Fun K "_law_cwhole" "_law_cwhole" (top 27) f fd)(B:lJ mg)      {sp:Sp}(len:∀ vs H Q E,sp vs H Q E->vs.length=1)
  (rd:∀ vs H Q E,sp vs H Q E->mH K   { nx:=fun _ H'=>Q .non H',rt:=Q } (bW ["thing"] vs) H):FnOk P w K mg base CX0 1 f fd ["thing"] sp:=by
 refine F.ok kS len (fun cdv A outer s H vs Q E hr h=>⟨_,?_,rd vs H Q E h⟩)
 have nd:=kS.nd
 exact (@aA _ _ _ _ _ (@bP _ _ _ _ (aCs (aN (gF (K:=K) rfl) rfl B.isi iB (@aC _ _ _ _ _ _ (pv 0) (@aC _ _ _ _ _ _ (jR (v := .ty "int") rfl B.int zB rfl) aD))) (aBU (aGU (aN (gF (K:=K) rfl) rfl B.isi iB (@aC _ _ _ _ _ _ (pv 0) (@aC _ _ _ _ _ _ (jR (v := .ty "bool") rfl B.bool aFg rfl) aD))))))) aI)
theorem kL:bV ["many","found","i"] ["many"] (aO (top 28)):=⟨rfl,rfl,rfl,by decide +kernel,rfl,by decide +kernel,by decide +kernel⟩
def lL (K:ae)   : TS:=(aP (bU (oR aQ) (aL 1)) (aP (mW (lQ (aB (aE 0) aQ)) (aL 2) (aP (bU (tOp (bQ K) (aE 1) (fU [none,some 2] (aCV (aB (tOp (bQ K) (aE 2) (tC (.int 1))) (aB (aE 0) aQ))) (aL 0) [] fun acc=>(eX (gW (aB (aE 1) (aB (aE 0) aQ))) acc))) (aL 1)) aK)) (aP (fB (aE 1)) aK)))
theorem rK (F:Fun K "_law_cpairs" "_law_cpairs" (top 28) f fd)(B:lJ mg)      {sp:Sp}(len:∀ vs H Q E,sp vs H Q E->vs.length=1)
  (rd:∀ vs H Q E,sp vs H Q E->lL K   { nx:=fun _ H'=>Q .non H',rt:=Q } (bW ["many","found","i"] vs) H):FnOk P w K mg base CX0 1 f fd ["many"] sp:=by
 refine F.ok kL len (fun cdv A outer s H vs Q E hr h=>⟨_,?_,rd vs H Q E h⟩)
 have nd:=kL.nd
 exact (@aA _ _ _ _ _ (@aY _ _ 1 _ _ _ _ nd rfl (Or.inl rfl) (@fS _ _ _ _ aD) (by rfl) (by first | exact .inl rfl | exact .inr rfl | assumption)) (@aA _ _ _ _ _ (dR d6 rfl (dA rfl B.range (@aC _ _ _ _ _ _ (pv 0) aD)) (aT (i:=2) nd rfl (Or.inr rfl)) (@aA _ _ _ _ _ (@aY _ _ 1 _ _ _ _ nd rfl (Or.inl rfl) (@aW _ _ _ _ _ _ _ _ (bJ (K:=K) rfl) (pv 1) (dQ (N':=["j","i"]) (ix:=[none,some 2]) rfl rfl rfl (qB rfl B.range (@cA _ _ _ _ _ _ _ _ (@aW _ _ _ _ _ _ _ _ (bJ (K:=K) rfl) (pv 2) aG) (@aC _ _ _ _ _ _ (pv 0) aD))) (fun _ _ _=>(aT (i:=0) (show (["j","i"]:List Str).Nodup from by decide +kernel) rfl (Or.inl rfl))) (fun _ _ _ => .nil) (fun _ _ _ _=>(cS rfl (@cJ _ _ _ _ _ (@aC _ _ _ _ _ _ (pv 1) (@aC _ _ _ _ _ _ (pv 0) aD))) rfl)))) (by rfl) (by first | exact .inl rfl | exact .inr rfl | assumption)) aI)) (@aA _ _ _ _ _ (@bP _ _ _ _ (pv 1)) aI)))
theorem kN:bV ["rows","found","k","i","j","step"] ["rows"] (aO (top 29)):=⟨rfl,rfl,rfl,by decide +kernel,rfl,by decide +kernel,by decide +kernel⟩
def lN (K:ae)   : TS:=(aP (bU (fU [none] (lD K (aE 0)) (aL 0) [] fun acc=>(eX (tCB (xT K) (aB (aE 0) aQ)) acc)) (aL 1)) (aP (mW (lQ (aB (tCB (jH K) (aB (aE 0) aQ)) aQ)) (aL 2) (aP (mW (lQ (aB (tCB (jH K) (aB (aE 0) aQ)) aQ)) (aL 3) (aP (mW (lQ (aB (tCB (jH K) (aB (aE 0) aQ)) aQ)) (aL 4) (aP (bU (tOp (bQ K) (tOp (bF K) (tOp (bF K) (aE 1) (aE 3)) (aE 2)) (tOp (bF K) (tOp (bF K) (aE 1) (aE 2)) (aE 4))) (aL 5)) (aP (bU (tCB qK (aB (tOp (bF K) (tOp (bF K) (aE 1) (aE 3)) (aE 4)) (aB (aE 5) aQ))) (oZ (tOp (bF K) (aE 1) (aE 3)) (aE 4) fV)) aK))) aK)) aK)) (aP (fB (tCB (kQ K) (aB (fU [none] (lD K (aE 1)) (aL 0) [] fun acc=>(eX (tCB (kQ K) (aB (aE 0) aQ)) acc)) aQ))) aK)))
theorem rZ (F:Fun K "_law_cshort" "_law_cshort" (top 29) f fd)(B:lJ mg)      {sp:Sp}(len:∀ vs H Q E,sp vs H Q E->vs.length=1)
  (rd:∀ vs H Q E,sp vs H Q E->lN K   { nx:=fun _ H'=>Q .non H',rt:=Q } (bW ["rows","found","k","i","j","step"] vs) H):FnOk P w K mg base CX0 1 f fd ["rows"] sp:=by
 refine F.ok kN len (fun cdv A outer s H vs Q E hr h=>⟨_,?_,rd vs H Q E h⟩)
 have nd:=kN.nd
 exact (@aA _ _ _ _ _ (hX (i:=1) nd rfl (Or.inl rfl) (N':=["row"]) (ix:=[none]) rfl rfl rfl (cG (K:=K) rfl (pv 0)) (fun _ _ _=>(aT (i:=0) (show (["row"]:List Str).Nodup from by decide +kernel) rfl (Or.inl rfl))) (fun _ _ _ => .nil) (fun _ _ _ _=>(cS rfl (cD (gB (K:=K) rfl rfl) rfl B.list jV (@aC _ _ _ _ _ _ (pv 0) aD)) rfl))) (@aA _ _ _ _ _ (dR d6 rfl (dA rfl B.range (@bA _ _ _ _ _ _ _ _ (aN (aZ (K:=K) rfl) rfl B.len cI (@aC _ _ _ _ _ _ (pv 0) aD)) aD)) (aT (i:=2) nd rfl (Or.inl rfl)) (@aA _ _ _ _ _ (dR d6 rfl (dA rfl B.range (@bA _ _ _ _ _ _ _ _ (aN (aZ (K:=K) rfl) rfl B.len cI (@aC _ _ _ _ _ _ (pv 0) aD)) aD)) (aT (i:=3) nd rfl (Or.inl rfl)) (@aA _ _ _ _ _ (dR d6 rfl (dA rfl B.range (@bA _ _ _ _ _ _ _ _ (aN (aZ (K:=K) rfl) rfl B.len cI (@aC _ _ _ _ _ _ (pv 0) aD)) aD)) (aT (i:=4) nd rfl (Or.inl rfl)) (@aA _ _ _ _ _ (@aY _ _ 5 _ _ _ _ nd rfl (Or.inl rfl) (@aW _ _ _ _ _ _ _ _ (bJ (K:=K) rfl) (@bD _ _ _ _ _ _ _ (aU (K:=K) rfl) (@bD _ _ _ _ _ _ _ (aU (K:=K) rfl) (pv 1) (pv 3) (fun _ _=>rfl)) (pv 2) (fun _ _=>rfl)) (@bD _ _ _ _ _ _ _ (aU (K:=K) rfl) (@bD _ _ _ _ _ _ _ (aU (K:=K) rfl) (pv 1) (pv 2) (fun _ _=>rfl)) (pv 4) (fun _ _=>rfl))) (by rfl) (by first | exact .inl rfl | exact .inr rfl | assumption)) (@aA _ _ _ _ _ (jB (aN (kE rfl) rfl B.min qZ (@bO _ _ _ _ _ _ _ (@bD _ _ _ _ _ _ _ (aU (K:=K) rfl) (@bD _ _ _ _ _ _ _ (aU (K:=K) rfl) (pv 1) (pv 3) (fun _ _=>rfl)) (pv 4) (fun _ _=>rfl)) (@aC _ _ _ _ _ _ (pv 5) aD))) (qY (@bD _ _ _ _ _ _ _ (aU (K:=K) rfl) (pv 1) (pv 3) (fun _ _=>rfl)) (pv 4) iL)) aI))) aI)) aI)) (@aA _ _ _ _ _ (@bP _ _ _ _ (cD (eB (K:=K) rfl) rfl B.tuple fA (cW (dQ (N':=["row"]) (ix:=[none]) rfl rfl rfl (cG (K:=K) rfl (pv 1)) (fun _ _ _=>(aT (i:=0) (show (["row"]:List Str).Nodup from by decide +kernel) rfl (Or.inl rfl))) (fun _ _ _ => .nil) (fun _ _ _ _=>(cS rfl (cD (eB (K:=K) rfl) rfl B.tuple fA (@aC _ _ _ _ _ _ (pv 0) aD)) rfl))) aD))) aI)))
theorem mK:bV ["feed","least","most","many","way","top","rows","spots","i","j","found"] ["feed","least","most"] (aO (top 30)):=⟨rfl,rfl,rfl,by decide +kernel,rfl,by decide +kernel,by decide +kernel⟩
def nS (K:ae)  (aH:Sp) (bE:Sp) (cB:Sp):TS:=(aP (bU (tOp (bQ K) (aE 1) (bG aH [] E0 (aB (aE 0) (aB (tOp (bQ K) (tOp iW (aE 2) (aE 1)) (tC (.int 1))) aQ)))) (aL 3)) (aP (bU (bG aH [] E0 (aB (aE 0) (aB (tC (.int 8)) aQ))) (aL 4)) (aP (bU (tOp (bF K) (oR (aB (tC (.int 2)) (aB (tC (.int 5)) (aB (tC (.int 30)) (aB (tC (.int 1000001)) aQ))))) (bG aH [] E0 (aB (aE 0) (aB (tC (.int 4)) aQ)))) (aL 5)) (aP (bU (fU [none,some 3] (lQ (aB (aE 3) aQ)) (aL 0) [] fun acc=>(eX (tOp dP (oR (aB (tC (.int 0)) aQ)) (aE 1)) acc)) (aL 6)) (aP (bU (fU [none,some 0,some 5] (lQ (aB (aE 3) aQ)) (aL 0) [] fun acc=>(eX (gW (aB (bG aH [] E0 (aB (aE 1) (aB (aE 2) aQ))) (aB (bG aH [] E0 (aB (aE 1) (aB (aE 2) aQ))) aQ))) acc)) (aL 7)) (aP (mW (lD K (bG bE [] E0 (aB (aE 3) aQ))) (qE K 2 (cO (aL 8) (cO (aL 9) rG))) (aP (bU (bG aH [] E0 (aB (aE 0) (aB (aE 5) aQ))) (aL 10)) (aP (eD (bZ (tOp (gX K) (aE 4) (tC (.int 1)))) (aP (bU (tOp dP (tOp xD (aE 10) (tC (.int 2))) (tOp iW (aE 5) (tC (.int 1)))) (aL 10)) aK) aK) (aP (eD (tOr (bZ (tOp (gX K) (aE 4) (tC (.int 2)))) (bZ (tOp (gX K) (aE 4) (tC (.int 3))))) (aP (bU (tCB zT (aB (tOp iW (tOp (bF K) (tOp (bF K) (aE 7) (aE 8)) (tC (.int 0))) (tOp (bF K) (tOp (bF K) (aE 7) (aE 9)) (tC (.int 0)))) aQ)) (aL 10)) aK) aK) (aP (eD (bZ (tOp (gX K) (aE 4) (tC (.int 3)))) (aP (bU (tOp (bQ K) (aE 10) (tCB zT (aB (tOp iW (tOp (bF K) (tOp (bF K) (aE 7) (aE 8)) (tC (.int 1))) (tOp (bF K) (tOp (bF K) (aE 7) (aE 9)) (tC (.int 1)))) aQ))) (aL 10)) aK) aK) (aP (eD (bZ (tOp (gX K) (aE 4) (tC (.int 4)))) (aP (bU (tOp iW (aE 5) (tC (.int 1))) (aL 10)) aK) aK) (aP (bU (tCB qK (aB (aE 10) (aB (tOp oX (tC (.int 10)) (tC (.int 6))) aQ))) (oZ (tOp (bF K) (aE 6) (aE 8)) (aE 9) fV)) (aP (bU (tOp (bF K) (tOp (bF K) (aE 6) (aE 8)) (aE 9)) (oZ (tOp (bF K) (aE 6) (aE 9)) (aE 8) fV)) aK)))))))) (aP (eD (bZ (tOp yGt (aE 4) (tC (.int 5)))) (aP (fB (bG cB [] E0 (aB (aE 6) aQ))) aK) aK) (aP (fB (tCB (kQ K) (aB (fU [none] (lD K (aE 6)) (aL 0) [] fun acc=>(eX (tCB (kQ K) (aB (aE 0) aQ)) acc)) aQ))) aK))))))))
theorem tO (F:Fun K "_law_ceven" "_law_ceven" (top 30) f fd)(B:lJ mg)    {aH:Sp}(bB:Def P w K mg base "_law_cdraw" 2 ["feed","many"] aH){bE:Sp}(dM:Def P w K mg base "_law_cpairs" 1 ["many"] bE){cB:Sp}(iR:Def P w K mg base "_law_cshort" 1 ["rows"] cB)  {sp:Sp}(len:∀ vs H Q E,sp vs H Q E->vs.length=3)
  (rd:∀ vs H Q E,sp vs H Q E->nS K  aH bE cB { nx:=fun _ H'=>Q .non H',rt:=Q } (bW ["feed","least","most","many","way","top","rows","spots","i","j","found"] vs) H):FnOk P w K mg base CX0 3 f fd ["feed","least","most"] sp:=by
 refine F.ok mK len (fun cdv A outer s H vs Q E hr h=>⟨_,?_,rd vs H Q E h⟩)
 have nd:=mK.nd
 exact (@aA _ _ _ _ _ (@aY _ _ 3 _ _ _ _ nd rfl (Or.inr rfl) (@aW _ _ _ _ _ _ _ _ (bJ (K:=K) rfl) (pv 1) (bH (bB.mono (by decide)) hr rfl (@aC _ _ _ _ _ _ (pv 0) (@cA _ _ _ _ _ _ _ _ (@aW _ _ _ _ _ _ _ _ (bJ (K:=K) rfl) (@aW _ _ _ _ _ _ _ _ eI (pv 2) (pv 1)) aG) aD)))) (by rfl) (by first | exact .inl rfl | exact .inr rfl | assumption)) (@aA _ _ _ _ _ (@aY _ _ 4 _ _ _ _ nd rfl (Or.inl rfl) (bH (bB.mono (by decide)) hr rfl (@aC _ _ _ _ _ _ (pv 0) (@aV _ _ _ _ _ _ _ aG aD))) (by rfl) (by first | exact .inl rfl | exact .inr rfl | assumption)) (@aA _ _ _ _ _ (@aY _ _ 5 _ _ _ _ nd rfl (Or.inr rfl) (@bD _ _ _ _ _ _ _ (aU (K:=K) rfl) (@fS _ _ _ _ (@aV _ _ _ _ _ _ _ aG (@aV _ _ _ _ _ _ _ aG (@aV _ _ _ _ _ _ _ aG (@aV _ _ _ _ _ _ _ aG aD))))) (bH (bB.mono (by decide)) hr rfl (@aC _ _ _ _ _ _ (pv 0) (@aV _ _ _ _ _ _ _ aG aD))) (fun _ _=>rfl)) (by rfl) (by first | exact .inl rfl | exact .inr rfl | assumption)) (@aA _ _ _ _ _ (hX (i:=6) nd rfl (Or.inl rfl) (N':=["k","many"]) (ix:=[none,some 3]) rfl rfl rfl (dA rfl B.range (@aC _ _ _ _ _ _ (pv 3) aD)) (fun _ _ _=>(aT (i:=0) (show (["k","many"]:List Str).Nodup from by decide +kernel) rfl (Or.inl rfl))) (fun _ _ _ => .nil) (fun _ _ _ _=>(cS rfl (@aW _ _ _ _ _ _ _ _ cK (@fS _ _ _ _ (@aV _ _ _ _ _ _ _ aG aD)) (pv 1)) rfl))) (@aA _ _ _ _ _ (hX (i:=7) nd rfl (Or.inl rfl) (N':=["k","feed","top"]) (ix:=[none,some 0,some 5]) rfl rfl rfl (dA rfl B.range (@aC _ _ _ _ _ _ (pv 3) aD)) (fun _ _ _=>(aT (i:=0) (show (["k","feed","top"]:List Str).Nodup from by decide +kernel) rfl (Or.inl rfl))) (fun _ _ _ => .nil) (fun _ _ _ _=>(cS rfl (@cJ _ _ _ _ _ (@bA _ _ _ _ _ _ _ _ (bH (bB.mono (by decide)) hr rfl (@aC _ _ _ _ _ _ (pv 1) (@aC _ _ _ _ _ _ (pv 2) aD))) (@bA _ _ _ _ _ _ _ _ (bH (bB.mono (by decide)) hr rfl (@aC _ _ _ _ _ _ (pv 1) (@aC _ _ _ _ _ _ (pv 2) aD))) aD))) rfl))) (@aA _ _ _ _ _ (dR d6 rfl (cG (K:=K) rfl (bH (dM.mono (by decide)) hr rfl (@aC _ _ _ _ _ _ (pv 3) aD))) (dD (K:=K) rfl rfl (bC (aT (i:=8) nd rfl (Or.inl rfl)) (bC (aT (i:=9) nd rfl (Or.inl rfl)) dE))) (@aA _ _ _ _ _ (@aY _ _ 10 _ _ _ _ nd rfl (Or.inl rfl) (bH (bB.mono (by decide)) hr rfl (@aC _ _ _ _ _ _ (pv 0) (@aC _ _ _ _ _ _ (pv 5) aD))) (by rfl) (by first | exact .inl rfl | exact .inr rfl | assumption)) (@aA _ _ _ _ _ (@dG _ _ _ _ _ _ _ _ (bK (fL (K:=K) rfl hr) (pv 4) aG (bX _)) (@aA _ _ _ _ _ (@aY _ _ 10 _ _ _ _ nd rfl (Or.inl rfl) (@aW _ _ _ _ _ _ _ _ cK (@aW _ _ _ _ _ _ _ _ jW (pv 10) aG) (@aW _ _ _ _ _ _ _ _ eI (pv 5) aG)) (by rfl) (by first | exact .inl rfl | exact .inr rfl | assumption)) aI) aI) (@aA _ _ _ _ _ (@dG _ _ _ _ _ _ _ _ (PW.pt (lV (bK (fL (K:=K) rfl hr) (pv 4) aG (bX _)) (jX (bK (fL (K:=K) rfl hr) (pv 4) aG (bX _))))) (@aA _ _ _ _ _ (@aY _ _ 10 _ _ _ _ nd rfl (Or.inl rfl) (aN jN rfl B.abs vB (@cA _ _ _ _ _ _ _ _ (@aW _ _ _ _ _ _ _ _ eI (@bD _ _ _ _ _ _ _ (aU (K:=K) rfl) (@bD _ _ _ _ _ _ _ (aU (K:=K) rfl) (pv 7) (pv 8) (fun _ _=>rfl)) aG (fun _ _=>rfl)) (@bD _ _ _ _ _ _ _ (aU (K:=K) rfl) (@bD _ _ _ _ _ _ _ (aU (K:=K) rfl) (pv 7) (pv 9) (fun _ _=>rfl)) aG (fun _ _=>rfl))) aD)) (by rfl) (by first | exact .inl rfl | exact .inr rfl | assumption)) aI) aI) (@aA _ _ _ _ _ (@dG _ _ _ _ _ _ _ _ (bK (fL (K:=K) rfl hr) (pv 4) aG (bX _)) (@aA _ _ _ _ _ (@aY _ _ 10 _ _ _ _ nd rfl (Or.inl rfl) (@aW _ _ _ _ _ _ _ _ (bJ (K:=K) rfl) (pv 10) (aN jN rfl B.abs vB (@cA _ _ _ _ _ _ _ _ (@aW _ _ _ _ _ _ _ _ eI (@bD _ _ _ _ _ _ _ (aU (K:=K) rfl) (@bD _ _ _ _ _ _ _ (aU (K:=K) rfl) (pv 7) (pv 8) (fun _ _=>rfl)) aG (fun _ _=>rfl)) (@bD _ _ _ _ _ _ _ (aU (K:=K) rfl) (@bD _ _ _ _ _ _ _ (aU (K:=K) rfl) (pv 7) (pv 9) (fun _ _=>rfl)) aG (fun _ _=>rfl))) aD))) (by rfl) (by first | exact .inl rfl | exact .inr rfl | assumption)) aI) aI) (@aA _ _ _ _ _ (@dG _ _ _ _ _ _ _ _ (bK (fL (K:=K) rfl hr) (pv 4) aG (bX _)) (@aA _ _ _ _ _ (@aY _ _ 10 _ _ _ _ nd rfl (Or.inl rfl) (@aW _ _ _ _ _ _ _ _ eI (pv 5) aG) (by rfl) (by first | exact .inl rfl | exact .inr rfl | assumption)) aI) aI) (@aA _ _ _ _ _ (jB (aN (kE rfl) rfl B.min qZ (@aC _ _ _ _ _ _ (pv 10) (@cA _ _ _ _ _ _ _ _ (@aW _ _ _ _ _ _ _ _ nP aG aG) aD))) (qY (@bD _ _ _ _ _ _ _ (aU (K:=K) rfl) (pv 6) (pv 8) (fun _ _=>rfl)) (pv 9) iL)) (@aA _ _ _ _ _ (jB (@bD _ _ _ _ _ _ _ (aU (K:=K) rfl) (@bD _ _ _ _ _ _ _ (aU (K:=K) rfl) (pv 6) (pv 8) (fun _ _=>rfl)) (pv 9) (fun _ _=>rfl)) (qY (@bD _ _ _ _ _ _ _ (aU (K:=K) rfl) (pv 6) (pv 9) (fun _ _=>rfl)) (pv 8) iL)) aI)))))))) (@aA _ _ _ _ _ (@dG _ _ _ _ _ _ _ _ (bK aAn (pv 4) aG (bX _)) (@aA _ _ _ _ _ (@bP _ _ _ _ (bH (iR.mono (by decide)) hr rfl (@aC _ _ _ _ _ _ (pv 6) aD))) aI) aI) (@aA _ _ _ _ _ (@bP _ _ _ _ (cD (eB (K:=K) rfl) rfl B.tuple fA (cW (dQ (N':=["row"]) (ix:=[none]) rfl rfl rfl (cG (K:=K) rfl (pv 6)) (fun _ _ _=>(aT (i:=0) (show (["row"]:List Str).Nodup from by decide +kernel) rfl (Or.inl rfl))) (fun _ _ _ => .nil) (fun _ _ _ _=>(cS rfl (cD (eB (K:=K) rfl) rfl B.tuple fA (@aC _ _ _ _ _ _ (pv 0) aD)) rfl))) aD))) aI))))))))
theorem jL:bV ["feed","table","i","j","number","row"] ["feed","table"] (aO (top 31)):=⟨rfl,rfl,rfl,by decide +kernel,rfl,by decide +kernel,by decide +kernel⟩
def kY (K:ae)  (aH:Sp):TS:=(aP (bU (bG aH [] E0 (aB (aE 0) (aB (tCB (jH K) (aB (aE 1) aQ)) aQ))) (aL 2)) (aP (bU (tOp xD (tOp (bQ K) (tOp (bQ K) (aE 2) (tC (.int 1))) (bG aH [] E0 (aB (aE 0) (aB (tOp iW (tCB (jH K) (aB (aE 1) aQ)) (tC (.int 1))) aQ)))) (tCB (jH K) (aB (aE 1) aQ))) (aL 3)) (aP (bU (tOp iW (tOp (bQ K) (tOp (bF K) (tOp (bF K) (aE 1) (aE 2)) (aE 3)) (tC (.int 1))) (tOp dP (tC (.int 2)) (tCB yI (aB (tOp (gX K) (tOp (bF K) (tOp (bF K) (aE 1) (aE 2)) (aE 3)) (tOp oX (tC (.int 10)) (tC (.int 6)))) aQ)))) (aL 4)) (aP (bU (tOp (bQ K) (tOp (bQ K) (tSl (uX K) (tOp (bF K) (aE 1) (aE 2)) dF (jC (aE 3))) (gW (aB (aE 4) aQ))) (tSl (uX K) (tOp (bF K) (aE 1) (aE 2)) (jC (tOp (bQ K) (aE 3) (tC (.int 1)))) dF)) (aL 5)) (aP (fB (tOp (bQ K) (tOp (bQ K) (tSl (uX K) (aE 1) dF (jC (aE 2))) (gW (aB (aE 5) aQ))) (tSl (uX K) (aE 1) (jC (tOp (bQ K) (aE 2) (tC (.int 1)))) dF))) aK)))))
theorem qC (F:Fun K "_law_cuneven" "_law_cuneven" (top 31) f fd)(B:lJ mg)    {aH:Sp}(bB:Def P w K mg base "_law_cdraw" 2 ["feed","many"] aH)  {sp:Sp}(len:∀ vs H Q E,sp vs H Q E->vs.length=2)
  (rd:∀ vs H Q E,sp vs H Q E->kY K  aH { nx:=fun _ H'=>Q .non H',rt:=Q } (bW ["feed","table","i","j","number","row"] vs) H):FnOk P w K mg base CX0 3 f fd ["feed","table"] sp:=by
 refine F.ok jL len (fun cdv A outer s H vs Q E hr h=>⟨_,?_,rd vs H Q E h⟩)
 have nd:=jL.nd
 exact (@aA _ _ _ _ _ (@aY _ _ 2 _ _ _ _ nd rfl (Or.inl rfl) (bH (bB.mono (by decide)) hr rfl (@aC _ _ _ _ _ _ (pv 0) (@bA _ _ _ _ _ _ _ _ (aN (aZ (K:=K) rfl) rfl B.len cI (@aC _ _ _ _ _ _ (pv 1) aD)) aD))) (by rfl) (by first | exact .inl rfl | exact .inr rfl | assumption)) (@aA _ _ _ _ _ (@aY _ _ 3 _ _ _ _ nd rfl (Or.inl rfl) (@aW _ _ _ _ _ _ _ _ jW (@aW _ _ _ _ _ _ _ _ (bJ (K:=K) rfl) (@aW _ _ _ _ _ _ _ _ (bJ (K:=K) rfl) (pv 2) aG) (bH (bB.mono (by decide)) hr rfl (@aC _ _ _ _ _ _ (pv 0) (@cA _ _ _ _ _ _ _ _ (@aW _ _ _ _ _ _ _ _ eI (aN (aZ (K:=K) rfl) rfl B.len cI (@aC _ _ _ _ _ _ (pv 1) aD)) aG) aD)))) (aN (aZ (K:=K) rfl) rfl B.len cI (@aC _ _ _ _ _ _ (pv 1) aD))) (by rfl) (by first | exact .inl rfl | exact .inr rfl | assumption)) (@aA _ _ _ _ _ (@aY _ _ 4 _ _ _ _ nd rfl (Or.inl rfl) (@aW _ _ _ _ _ _ _ _ eI (@aW _ _ _ _ _ _ _ _ (bJ (K:=K) rfl) (@bD _ _ _ _ _ _ _ (aU (K:=K) rfl) (@bD _ _ _ _ _ _ _ (aU (K:=K) rfl) (pv 1) (pv 2) (fun _ _=>rfl)) (pv 3) (fun _ _=>rfl)) aG) (@aW _ _ _ _ _ _ _ _ cK aG (cD nK rfl B.int zB (cW (iH (fL (K:=K) rfl hr) (@bD _ _ _ _ _ _ _ (aU (K:=K) rfl) (@bD _ _ _ _ _ _ _ (aU (K:=K) rfl) (pv 1) (pv 2) (fun _ _=>rfl)) (pv 3) (fun _ _=>rfl)) (@aW _ _ _ _ _ _ _ _ nP aG aG) (bX _)) aD)))) (by rfl) (by first | exact .inl rfl | exact .inr rfl | assumption)) (@aA _ _ _ _ _ (@aY _ _ 5 _ _ _ _ nd rfl (Or.inl rfl) (@aW _ _ _ _ _ _ _ _ (bJ (K:=K) rfl) (@aW _ _ _ _ _ _ _ _ (bJ (K:=K) rfl) (fD (sG (K:=K) rfl) (@bD _ _ _ _ _ _ _ (aU (K:=K) rfl) (pv 1) (pv 2) (fun _ _=>rfl)) gT (gU (pv 3))) (@cJ _ _ _ _ _ (@aC _ _ _ _ _ _ (pv 4) aD))) (fD (sG (K:=K) rfl) (@bD _ _ _ _ _ _ _ (aU (K:=K) rfl) (pv 1) (pv 2) (fun _ _=>rfl)) (gU (@aW _ _ _ _ _ _ _ _ (bJ (K:=K) rfl) (pv 3) aG)) gT)) (by rfl) (by first | exact .inl rfl | exact .inr rfl | assumption)) (@aA _ _ _ _ _ (@bP _ _ _ _ (@aW _ _ _ _ _ _ _ _ (bJ (K:=K) rfl) (@aW _ _ _ _ _ _ _ _ (bJ (K:=K) rfl) (fD (sG (K:=K) rfl) (pv 1) gT (gU (pv 2))) (@cJ _ _ _ _ _ (@aC _ _ _ _ _ _ (pv 5) aD))) (fD (sG (K:=K) rfl) (pv 1) (gU (@aW _ _ _ _ _ _ _ _ (bJ (K:=K) rfl) (pv 2) aG)) gT))) aI)))))
theorem iU:bV ["act","caught","kinds","others","e"] ["act"] (aO (top 32)):=⟨rfl,rfl,rfl,by decide +kernel,rfl,by decide +kernel,by decide +kernel⟩
def jK (K:ae) (fo:Addr->Sp->Prop) (C_NoBack:Addr) (C_NoRow:Addr) (C_NoTable:Addr) (C_NoText:Addr) (C_NotEven:Addr) (C_NotStraight:Addr) (C_RoundError:Addr) (C_TooFew:Addr) (C_TooMany:Addr)  : TS:=(aP (bU (tC .non) (aL 1)) (aP (aJb K C_RoundError 4 5 (fun E=>(aP (eD (bZ (tOp (gX K) (tCB (jH K) (aB (aE 0) aQ)) (tC (.int 2)))) (aP (jD (zH fo E (tOp (bF K) (aE 0) (tC (.int 0))) (aB (tOp (bF K) (aE 0) (tC (.int 1))) aQ))) aK) (aP (eD (bZ (tOp (gX K) (tCB (jH K) (aB (aE 0) aQ)) (tC (.int 3)))) (aP (jD (zH fo E (tOp (bF K) (aE 0) (tC (.int 0))) (aB (tOp (bF K) (aE 0) (tC (.int 1))) (aB (tOp (bF K) (aE 0) (tC (.int 2))) aQ)))) aK) (aP (jD (zH fo E (tOp (bF K) (aE 0) (tC (.int 0))) (aB (tOp (bF K) (aE 0) (tC (.int 1))) (aB (tOp (bF K) (aE 0) (tC (.int 2))) (aB (tOp (bF K) (aE 0) (tC (.int 3))) aQ))))) aK)) aK)) aK)) (aP (bU (aE 4) (aL 1)) aK)) (aP (eD (bZ (tOp aIj (aE 1) (tC .non))) (aP (fB (tC (.str ""))) aK) aK) (aP (bU (oR (aB (tCB (yZ K) (aB (aE 1) (aB (tC (.ref C_NotEven)) aQ))) (aB (tCB (yZ K) (aB (aE 1) (aB (tC (.ref C_NotStraight)) aQ))) aQ))) (aL 2)) (aP (bU (tOp (bQ K) (aE 2) (oR (aB (tCB (yZ K) (aB (aE 1) (aB (tC (.ref C_TooFew)) aQ))) (aB (tCB (yZ K) (aB (aE 1) (aB (tC (.ref C_TooMany)) aQ))) aQ)))) (aL 2)) (aP (bU (tCB (yZ K) (aB (aE 1) (aB (gW (aB (tC (.ref C_NoBack)) (aB (tC (.ref C_NoRow)) (aB (tC (.ref C_NoTable)) (aB (tC (.ref C_NoText)) aQ))))) aQ))) (aL 3)) (aP (eD (tOr (bZ (tOp (xH K) (tBM K "list" aIv (aE 2) (aB (tC (.bl true)) aQ)) (tC (.int 1)))) (tOr (aHV K (aE 3)) (uF (tB (tCB (yZ K) (aB (aE 1) (aB (tC (.ty "ValueError")) aQ))))))) (aP (fB (tC (.str "odd"))) aK) aK) (aP (fB (tOp (bF K) (oR (aB (tC (.str "even")) (aB (tC (.str "straight")) (aB (tC (.str "few")) (aB (tC (.str "many")) aQ))))) (tBM K "list" aJc (aE 2) (aB (tC (.bl true)) aQ)))) aK))))))))
theorem oH (F:Fun K "_law_crefused" "_law_crefused" (top 32) f fd)(B:lJ mg)  {fo:Addr->Sp->Prop}(HV:∀ f sp,fo f sp->DefV P w K mg base 3 f sp){C_NoBack:Addr}(GC_NoBack:mg "NoBack" = some (.ref C_NoBack)){C_NoRow:Addr}(GC_NoRow:mg "NoRow" = some (.ref C_NoRow)){C_NoTable:Addr}(GC_NoTable:mg "NoTable" = some (.ref C_NoTable)){C_NoText:Addr}(GC_NoText:mg "NoText" = some (.ref C_NoText)){C_NotEven:Addr}(GC_NotEven:mg "NotEven" = some (.ref C_NotEven)){C_NotStraight:Addr}(GC_NotStraight:mg "NotStraight" = some (.ref C_NotStraight)){C_RoundError:Addr}(GC_RoundError:mg "RoundError" = some (.ref C_RoundError)){C_TooFew:Addr}(GC_TooFew:mg "TooFew" = some (.ref C_TooFew)){C_TooMany:Addr}(GC_TooMany:mg "TooMany" = some (.ref C_TooMany))  (GV:mg "ValueError" = none)   {sp:Sp}(len:∀ vs H Q E,sp vs H Q E->vs.length=1)
  (rd:∀ vs H Q E,sp vs H Q E->jK K fo C_NoBack C_NoRow C_NoTable C_NoText C_NotEven C_NotStraight C_RoundError C_TooFew C_TooMany  { nx:=fun _ H'=>Q .non H',rt:=Q } (bW ["act","caught","kinds","others","e"] vs) H):FnOk P w K mg base CX0 4 f fd ["act"] sp:=by
 refine F.ok iU len (fun cdv A outer s H vs Q E hr h=>⟨_,?_,rd vs H Q E h⟩)
 have nd:=iU.nd
 exact (@aA _ _ _ _ _ (@aY _ _ 1 _ _ _ _ nd rfl (Or.inl rfl) aCB (by rfl) (by first | exact .inl rfl | exact .inr rfl | assumption)) (@aA _ _ _ _ _ (aFs (K:=K) (ie:=4) (ln:=5) rfl rfl rfl rfl nd rfl rfl rfl GC_RoundError (fun pn W E hx=>(@aA _ _ _ _ _ (@dG _ _ _ _ _ _ _ _ (PT.nox (bK (fL (K:=K) rfl hr) (aN (aZ (K:=K) rfl) rfl B.len cI (@aC _ _ _ _ _ _ (pv 0) aD)) aG (bX _))) (@aA _ _ _ _ _ (fP (tS (fun f sp h=>(HV f sp h).mono (by decide)) hr hx (@bD _ _ _ _ _ _ _ (aU (K:=K) rfl) (pv 0) aG (fun _ _=>rfl)) (@bO _ _ _ _ _ _ _ (@bD _ _ _ _ _ _ _ (aU (K:=K) rfl) (pv 0) aG (fun _ _=>rfl)) aD))) aI) (@aA _ _ _ _ _ (@dG _ _ _ _ _ _ _ _ (PT.nox (bK (fL (K:=K) rfl hr) (aN (aZ (K:=K) rfl) rfl B.len cI (@aC _ _ _ _ _ _ (pv 0) aD)) aG (bX _))) (@aA _ _ _ _ _ (fP (tS (fun f sp h=>(HV f sp h).mono (by decide)) hr hx (@bD _ _ _ _ _ _ _ (aU (K:=K) rfl) (pv 0) aG (fun _ _=>rfl)) (@bO _ _ _ _ _ _ _ (@bD _ _ _ _ _ _ _ (aU (K:=K) rfl) (pv 0) aG (fun _ _=>rfl)) (@bO _ _ _ _ _ _ _ (@bD _ _ _ _ _ _ _ (aU (K:=K) rfl) (pv 0) aG (fun _ _=>rfl)) aD)))) aI) (@aA _ _ _ _ _ (fP (tS (fun f sp h=>(HV f sp h).mono (by decide)) hr hx (@bD _ _ _ _ _ _ _ (aU (K:=K) rfl) (pv 0) aG (fun _ _=>rfl)) (@bO _ _ _ _ _ _ _ (@bD _ _ _ _ _ _ _ (aU (K:=K) rfl) (pv 0) aG (fun _ _=>rfl)) (@bO _ _ _ _ _ _ _ (@bD _ _ _ _ _ _ _ (aU (K:=K) rfl) (pv 0) aG (fun _ _=>rfl)) (@bO _ _ _ _ _ _ _ (@bD _ _ _ _ _ _ _ (aU (K:=K) rfl) (pv 0) aG (fun _ _=>rfl)) aD))))) aI)) aI)) aI)) (fun pn a=>(@aA _ _ _ _ _ (@aY _ _ 1 _ _ _ _ nd rfl (Or.inl rfl) (pv 4) (by rfl) (by first | exact .inl rfl | exact .inr rfl | assumption)) aI))) (@aA _ _ _ _ _ (@dG _ _ _ _ _ _ _ _ (bK aHo (pv 1) aCB (bX _)) (@aA _ _ _ _ _ (@bP _ _ _ _ nT) aI) aI) (@aA _ _ _ _ _ (@aY _ _ 2 _ _ _ _ nd rfl (Or.inl rfl) (@fS _ _ _ _ (@bA _ _ _ _ _ _ _ _ (aN (iD (K:=K) rfl) rfl B.isi iB (@aC _ _ _ _ _ _ (pv 1) (@aC _ _ _ _ _ _ (gR (v := .ref C_NotEven) rfl GC_NotEven rfl) aD))) (@bA _ _ _ _ _ _ _ _ (aN (iD (K:=K) rfl) rfl B.isi iB (@aC _ _ _ _ _ _ (pv 1) (@aC _ _ _ _ _ _ (gR (v := .ref C_NotStraight) rfl GC_NotStraight rfl) aD))) aD))) (by rfl) (by first | exact .inl rfl | exact .inr rfl | assumption)) (@aA _ _ _ _ _ (@aY _ _ 2 _ _ _ _ nd rfl (Or.inl rfl) (@aW _ _ _ _ _ _ _ _ (bJ (K:=K) rfl) (pv 2) (@fS _ _ _ _ (@bA _ _ _ _ _ _ _ _ (aN (iD (K:=K) rfl) rfl B.isi iB (@aC _ _ _ _ _ _ (pv 1) (@aC _ _ _ _ _ _ (gR (v := .ref C_TooFew) rfl GC_TooFew rfl) aD))) (@bA _ _ _ _ _ _ _ _ (aN (iD (K:=K) rfl) rfl B.isi iB (@aC _ _ _ _ _ _ (pv 1) (@aC _ _ _ _ _ _ (gR (v := .ref C_TooMany) rfl GC_TooMany rfl) aD))) aD)))) (by rfl) (by first | exact .inl rfl | exact .inr rfl | assumption)) (@aA _ _ _ _ _ (@aY _ _ 3 _ _ _ _ nd rfl (Or.inl rfl) (aN (iD (K:=K) rfl) rfl B.isi iB (@aC _ _ _ _ _ _ (pv 1) (@cY _ _ _ _ _ _ _ (@cJ _ _ _ _ _ (@aC _ _ _ _ _ _ (gR (v := .ref C_NoBack) rfl GC_NoBack rfl) (@aC _ _ _ _ _ _ (gR (v := .ref C_NoRow) rfl GC_NoRow rfl) (@aC _ _ _ _ _ _ (gR (v := .ref C_NoTable) rfl GC_NoTable rfl) (@aC _ _ _ _ _ _ (gR (v := .ref C_NoText) rfl GC_NoText rfl) aD))))) aD))) (by rfl) (by first | exact .inl rfl | exact .inr rfl | assumption)) (@aA _ _ _ _ _ (@dG _ _ _ _ _ _ _ _ (PW.pt (lV (bK (jJ (K:=K) rfl hr) (jG (K:=K) rfl fh PySem.F.slot_list_count PySem.F.type_list_count aGb (pv 2) (@aV _ _ _ _ _ _ _ iM aD)) aG (bX _)) (lV (aCJ (K:=K) rfl (pv 3) (fun _=>rfl)) (jX (fN (fM (aN (iD (K:=K) rfl) rfl B.isi iB (@aC _ _ _ _ _ _ (pv 1) (@aC _ _ _ _ _ _ (jR (v := .ty "ValueError") rfl GV tU rfl) aD))))))))) (@aA _ _ _ _ _ (@bP _ _ _ _ nT) aI) aI) (@aA _ _ _ _ _ (@bP _ _ _ _ (@bD _ _ _ _ _ _ _ (aU (K:=K) rfl) (@fS _ _ _ _ (@aV _ _ _ _ _ _ _ nT (@aV _ _ _ _ _ _ _ nT (@aV _ _ _ _ _ _ _ nT (@aV _ _ _ _ _ _ _ nT aD))))) (jG (K:=K) rfl fh PySem.F.slot_list_index PySem.F.type_list_index aGq (pv 2) (@aV _ _ _ _ _ _ _ iM aD)) (fun _ _=>rfl))) aI))))))))
theorem nX:bV ["top","bottom","one","other"] ["top","bottom"] (aO (top 33)):=⟨rfl,rfl,rfl,by decide +kernel,rfl,by decide +kernel,by decide +kernel⟩
def pT (K:ae)   : TS:=(aP (aIL 2 3 (aB (tCB zT (aB (aE 0) aQ)) (aB (aE 1) aQ))) (aP (vD (bZ (tOp yGt (aE 3) (tC (.int 0)))) (aP (aIL 2 3 (aB (aE 3) (aB (tOp xD (aE 2) (aE 3)) aQ))) aK)) (aP (fB (gW (aB (tOp pQ (aE 0) (aE 2)) (aB (tOp pQ (aE 1) (aE 2)) aQ)))) aK)))
theorem vI (F:Fun K "_law_clow" "_law_clow" (top 33) f fd)(B:lJ mg)      {sp:Sp}(len:∀ vs H Q E,sp vs H Q E->vs.length=2)
  (rd:∀ vs H Q E,sp vs H Q E->pT K   { nx:=fun _ H'=>Q .non H',rt:=Q } (bW ["top","bottom","one","other"] vs) H):FnOk P w K mg base CX0 1 f fd ["top","bottom"] sp:=by
 refine F.ok nX len (fun cdv A outer s H vs Q E hr h=>⟨_,?_,rd vs H Q E h⟩)
 have nd:=nX.nd
 exact (@aA _ _ _ _ _ (aEA (i:=2) (j:=3) rfl nd rfl rfl (by decide) rfl rfl (@bA _ _ _ _ _ _ _ _ (aN jN rfl B.abs vB (@aC _ _ _ _ _ _ (pv 0) aD)) (@aC _ _ _ _ _ _ (pv 1) aD)) rfl) (@aA _ _ _ _ _ (pC d6 (bK aAn (pv 3) aG (bX _)) (@aA _ _ _ _ _ (aEA (i:=2) (j:=3) rfl nd rfl rfl (by decide) rfl rfl (@aC _ _ _ _ _ _ (pv 3) (@cA _ _ _ _ _ _ _ _ (@aW _ _ _ _ _ _ _ _ jW (pv 2) (pv 3)) aD)) rfl) aI)) (@aA _ _ _ _ _ (@bP _ _ _ _ (@cJ _ _ _ _ _ (@cA _ _ _ _ _ _ _ _ (@aW _ _ _ _ _ _ _ _ gO (pv 0) (pv 2)) (@cA _ _ _ _ _ _ _ _ (@aW _ _ _ _ _ _ _ _ gO (pv 1) (pv 2)) aD)))) aI)))
theorem mQ:bV ["some","top","bottom","one"] ["some"] (aO (top 34)):=⟨rfl,rfl,rfl,by decide +kernel,rfl,by decide +kernel,by decide +kernel⟩
def oB (K:ae)  (aS:Sp):TS:=(aP (bU (gW (aB (tC (.int 0)) (aB (tC (.int 1)) aQ))) (qE K 2 (cO (aL 1) (cO (aL 2) rG)))) (aP (mW (lD K (aE 0)) (aL 3) (aP (bU (bG aS [] E0 (aB (tOp (bQ K) (tOp dP (aE 1) (tOp (bF K) (aE 3) (tC (.int 1)))) (tOp dP (tOp (bF K) (aE 3) (tC (.int 0))) (aE 2))) (aB (tOp dP (aE 2) (tOp (bF K) (aE 3) (tC (.int 1)))) aQ))) (qE K 2 (cO (aL 1) (cO (aL 2) rG)))) aK)) (aP (fB (gW (aB (aE 1) (aB (aE 2) aQ)))) aK)))
theorem uC (F:Fun K "_law_cplus" "_law_cplus" (top 34) f fd)(B:lJ mg)    {aS:Sp}(cH:Def P w K mg base "_law_clow" 1 ["top","bottom"] aS)  {sp:Sp}(len:∀ vs H Q E,sp vs H Q E->vs.length=1)
  (rd:∀ vs H Q E,sp vs H Q E->oB K  aS { nx:=fun _ H'=>Q .non H',rt:=Q } (bW ["some","top","bottom","one"] vs) H):FnOk P w K mg base CX0 2 f fd ["some"] sp:=by
 refine F.ok mQ len (fun cdv A outer s H vs Q E hr h=>⟨_,?_,rd vs H Q E h⟩)
 have nd:=mQ.nd
 exact (@aA _ _ _ _ _ (jB (@cJ _ _ _ _ _ (@aV _ _ _ _ _ _ _ aG (@aV _ _ _ _ _ _ _ aG aD))) (dD (K:=K) rfl rfl (bC (aT (i:=1) nd rfl (Or.inl rfl)) (bC (aT (i:=2) nd rfl (Or.inl rfl)) dE)))) (@aA _ _ _ _ _ (dR d6 rfl (cG (K:=K) rfl (pv 0)) (aT (i:=3) nd rfl (Or.inl rfl)) (@aA _ _ _ _ _ (jB (bH (cH.mono (by decide)) hr rfl (@cA _ _ _ _ _ _ _ _ (@aW _ _ _ _ _ _ _ _ (bJ (K:=K) rfl) (@aW _ _ _ _ _ _ _ _ cK (pv 1) (@bD _ _ _ _ _ _ _ (aU (K:=K) rfl) (pv 3) aG (fun _ _=>rfl))) (@aW _ _ _ _ _ _ _ _ cK (@bD _ _ _ _ _ _ _ (aU (K:=K) rfl) (pv 3) aG (fun _ _=>rfl)) (pv 2))) (@cA _ _ _ _ _ _ _ _ (@aW _ _ _ _ _ _ _ _ cK (pv 2) (@bD _ _ _ _ _ _ _ (aU (K:=K) rfl) (pv 3) aG (fun _ _=>rfl))) aD))) (dD (K:=K) rfl rfl (bC (aT (i:=1) nd rfl (Or.inl rfl)) (bC (aT (i:=2) nd rfl (Or.inl rfl)) dE)))) aI)) (@aA _ _ _ _ _ (@bP _ _ _ _ (@cJ _ _ _ _ _ (@aC _ _ _ _ _ _ (pv 1) (@aC _ _ _ _ _ _ (pv 2) aD)))) aI)))
theorem fT:bV ["thing"] ["thing"] (aO (top 35)):=⟨rfl,rfl,rfl,by decide +kernel,rfl,by decide +kernel,by decide +kernel⟩
def gJ (K:ae)  (aS:Sp) (bY:Sp):TS:=(aP (eD (tOr (uF (tB (tCB (aDy K) (aB (aE 0) (aB (tC (.ty "tuple")) aQ))))) (bZ (tOp (xH K) (tCB (jH K) (aB (aE 0) aQ)) (tC (.int 2))))) (aP (fB (tC (.bl false))) aK) aK) (aP (eD (tOr (uF (tB (bG bY [] E0 (aB (tOp (bF K) (aE 0) (tC (.int 0))) aQ)))) (tOr (uF (tB (bG bY [] E0 (aB (tOp (bF K) (aE 0) (tC (.int 1))) aQ)))) (bZ (tOp yLt (tOp (bF K) (aE 0) (tC (.int 1))) (tC (.int 1)))))) (aP (fB (tC (.bl false))) aK) aK) (aP (fB (tOp (gX K) (bG aS [] E0 (aB (tOp (bF K) (aE 0) (tC (.int 0))) (aB (tOp (bF K) (aE 0) (tC (.int 1))) aQ))) (aE 0))) aK)))
theorem kH (F:Fun K "_law_cis_fraction" "_law_cis_fraction" (top 35) f fd)(B:lJ mg)    {aS:Sp}(cH:Def P w K mg base "_law_clow" 1 ["top","bottom"] aS){bY:Sp}(cQ:Def P w K mg base "_law_cwhole" 1 ["thing"] bY)  {sp:Sp}(len:∀ vs H Q E,sp vs H Q E->vs.length=1)
  (rd:∀ vs H Q E,sp vs H Q E->gJ K  aS bY { nx:=fun _ H'=>Q .non H',rt:=Q } (bW ["thing"] vs) H):FnOk P w K mg base CX0 2 f fd ["thing"] sp:=by
 refine F.ok fT len (fun cdv A outer s H vs Q E hr h=>⟨_,?_,rd vs H Q E h⟩)
 have nd:=fT.nd
 exact (@aA _ _ _ _ _ (@dG _ _ _ _ _ _ _ _ (PW.pt (lV (fN (fM (aN (gF (K:=K) rfl) rfl B.isi iB (@aC _ _ _ _ _ _ (pv 0) (@aC _ _ _ _ _ _ (jR (v := .ty "tuple") rfl B.tuple fA rfl) aD))))) (jX (bK (jJ (K:=K) rfl hr) (aN (aZ (K:=K) rfl) rfl B.len cI (@aC _ _ _ _ _ _ (pv 0) aD)) aG (bX _))))) (@aA _ _ _ _ _ (@bP _ _ _ _ iM) aI) aI) (@aA _ _ _ _ _ (@dG _ _ _ _ _ _ _ _ (PW.pt (lV (fN (fM (bH (cQ.mono (by decide)) hr rfl (@bO _ _ _ _ _ _ _ (@bD _ _ _ _ _ _ _ (aU (K:=K) rfl) (pv 0) aG (fun _ _=>rfl)) aD)))) (lV (fN (fM (bH (cQ.mono (by decide)) hr rfl (@bO _ _ _ _ _ _ _ (@bD _ _ _ _ _ _ _ (aU (K:=K) rfl) (pv 0) aG (fun _ _=>rfl)) aD)))) (jX (bK uN (@bD _ _ _ _ _ _ _ (aU (K:=K) rfl) (pv 0) aG (fun _ _=>rfl)) aG (bX _)))))) (@aA _ _ _ _ _ (@bP _ _ _ _ iM) aI) aI) (@aA _ _ _ _ _ (@bP _ _ _ _ (iH (fL (K:=K) rfl hr) (bH (cH.mono (by decide)) hr rfl (@bO _ _ _ _ _ _ _ (@bD _ _ _ _ _ _ _ (aU (K:=K) rfl) (pv 0) aG (fun _ _=>rfl)) (@bO _ _ _ _ _ _ _ (@bD _ _ _ _ _ _ _ (aU (K:=K) rfl) (pv 0) aG (fun _ _=>rfl)) aD))) (pv 0) (bX _))) aI)))
theorem kU:bV ["ties","start","found","turn","i","j"] ["ties","start"] (aO (top 36)):=⟨rfl,rfl,rfl,by decide +kernel,rfl,by decide +kernel,by decide +kernel⟩
def lO (K:ae)   : TS:=(aP (bU (aGM [((aE 1),(tC .non))]) (aL 2)) (aP (mW (lQ (aB (tCB (jH K) (aB (aE 0) aQ)) aQ)) (aL 3) (aP (mW (lD K (aE 0)) (qE K 2 (cO (aL 4) (cO (aL 5) rG))) (aP (eD (aGf (tB (aHW (aE 4) (aE 2))) (tB (uO (aE 5) (aE 2)))) (aP (aBw (aE 2) (aE 5) (aE 4)) aK) aK) (aP (eD (aGf (tB (aHW (aE 5) (aE 2))) (tB (uO (aE 4) (aE 2)))) (aP (aBw (aE 2) (aE 4) (aE 5)) aK) aK) aK))) aK)) (aP (fB (aE 2)) aK)))
theorem rO (F:Fun K "_law_cahead" "_law_cahead" (top 36) f fd)(B:lJ mg)      {sp:Sp}(len:∀ vs H Q E,sp vs H Q E->vs.length=2)
  (rd:∀ vs H Q E,sp vs H Q E->lO K   { nx:=fun _ H'=>Q .non H',rt:=Q } (bW ["ties","start","found","turn","i","j"] vs) H):FnOk P w K mg base CX0 1 f fd ["ties","start"] sp:=by
 refine F.ok kU len (fun cdv A outer s H vs Q E hr h=>⟨_,?_,rd vs H Q E h⟩)
 have nd:=kU.nd
 exact (@aA _ _ _ _ _ (@aY _ _ 2 _ _ _ _ nd rfl (Or.inl rfl) (aET (aEh (pv 1) aCB aFh) rfl rfl (by intro h;cases h) (by decide)) (by rfl) (by first | exact .inl rfl | exact .inr rfl | assumption)) (@aA _ _ _ _ _ (dR d6 rfl (dA rfl B.range (@bA _ _ _ _ _ _ _ _ (aN (aZ (K:=K) rfl) rfl B.len cI (@aC _ _ _ _ _ _ (pv 0) aD)) aD)) (aT (i:=3) nd rfl (Or.inl rfl)) (@aA _ _ _ _ _ (dR d6 rfl (cG (K:=K) rfl (pv 0)) (dD (K:=K) rfl rfl (bC (aT (i:=4) nd rfl (Or.inl rfl)) (bC (aT (i:=5) nd rfl (Or.inl rfl)) dE))) (@aA _ _ _ _ _ (@dG _ _ _ _ _ _ _ _ (PW.pt (aAS (yS (aED (uQ hr) (pv 4) (pv 2))) (yG (yS (wT (uQ hr) (pv 5) (pv 2)))))) (@aA _ _ _ _ _ (yE (uQ hr) (pv 2) (pv 5) (pv 4) rfl) aI) aI) (@aA _ _ _ _ _ (@dG _ _ _ _ _ _ _ _ (PW.pt (aAS (yS (aED (uQ hr) (pv 5) (pv 2))) (yG (yS (wT (uQ hr) (pv 4) (pv 2)))))) (@aA _ _ _ _ _ (yE (uQ hr) (pv 2) (pv 4) (pv 5) rfl) aI) aI) aI))) aI)) (@aA _ _ _ _ _ (@bP _ _ _ _ (pv 2)) aI)))
theorem jQ:bV ["many","thing"] ["many","thing"] (aO (top 37)):=⟨rfl,rfl,rfl,by decide +kernel,rfl,by decide +kernel,by decide +kernel⟩
def kW (K:ae)  (bY:Sp):TS:=(aP (eD (tOr (uF (tB (tCB (aDy K) (aB (aE 1) (aB (tC (.ty "tuple")) aQ))))) (bZ (tOp (xH K) (tCB (jH K) (aB (aE 1) aQ)) (tC (.int 2))))) (aP (fB (tC (.bl false))) aK) aK) (aP (eD (tOr (uF (tB (bG bY [] E0 (aB (tOp (bF K) (aE 1) (tC (.int 0))) aQ)))) (uF (tB (bG bY [] E0 (aB (tOp (bF K) (aE 1) (tC (.int 1))) aQ))))) (aP (fB (tC (.bl false))) aK) aK) (aP (fB (yJ yLe yLt yLt (tC (.int 0)) (tOp (bF K) (aE 1) (tC (.int 0))) (tOp (bF K) (aE 1) (tC (.int 1))) (aE 0))) aK)))
theorem rA (F:Fun K "_law_cis_tie" "_law_cis_tie" (top 37) f fd)(B:lJ mg)    {bY:Sp}(cQ:Def P w K mg base "_law_cwhole" 1 ["thing"] bY)  {sp:Sp}(len:∀ vs H Q E,sp vs H Q E->vs.length=2)
  (rd:∀ vs H Q E,sp vs H Q E->kW K  bY { nx:=fun _ H'=>Q .non H',rt:=Q } (bW ["many","thing"] vs) H):FnOk P w K mg base CX0 2 f fd ["many","thing"] sp:=by
 refine F.ok jQ len (fun cdv A outer s H vs Q E hr h=>⟨_,?_,rd vs H Q E h⟩)
 have nd:=jQ.nd
 exact (@aA _ _ _ _ _ (@dG _ _ _ _ _ _ _ _ (PW.pt (lV (fN (fM (aN (gF (K:=K) rfl) rfl B.isi iB (@aC _ _ _ _ _ _ (pv 1) (@aC _ _ _ _ _ _ (jR (v := .ty "tuple") rfl B.tuple fA rfl) aD))))) (jX (bK (jJ (K:=K) rfl hr) (aN (aZ (K:=K) rfl) rfl B.len cI (@aC _ _ _ _ _ _ (pv 1) aD)) aG (bX _))))) (@aA _ _ _ _ _ (@bP _ _ _ _ iM) aI) aI) (@aA _ _ _ _ _ (@dG _ _ _ _ _ _ _ _ (PW.pt (lV (fN (fM (bH (cQ.mono (by decide)) hr rfl (@bO _ _ _ _ _ _ _ (@bD _ _ _ _ _ _ _ (aU (K:=K) rfl) (pv 1) aG (fun _ _=>rfl)) aD)))) (jX (fN (fM (bH (cQ.mono (by decide)) hr rfl (@bO _ _ _ _ _ _ _ (@bD _ _ _ _ _ _ _ (aU (K:=K) rfl) (pv 1) aG (fun _ _=>rfl)) aD))))))) (@aA _ _ _ _ _ (@bP _ _ _ _ iM) aI) aI) (@aA _ _ _ _ _ (@bP _ _ _ _ (aBI aIW uN uN aG (@bD _ _ _ _ _ _ _ (aU (K:=K) rfl) (pv 1) aG (fun _ _=>rfl)) (@bD _ _ _ _ _ _ _ (aU (K:=K) rfl) (pv 1) aG (fun _ _=>rfl)) (pv 0))) aI)))
theorem iX:bV ["many","ties","tie"] ["many","ties"] (aO (top 38)):=⟨rfl,rfl,rfl,by decide +kernel,rfl,by decide +kernel,by decide +kernel⟩
def jF (K:ae)  (fH:Sp) (cE:Sp):TS:=(aP (eD (tOr (uF (tB (tCB (aDy K) (aB (aE 1) (aB (tC (.ty "list")) aQ))))) (bZ (tOp (xH K) (tCB (jH K) (aB (aE 1) aQ)) (tOp iW (aE 0) (tC (.int 1)))))) (aP (fB (tC (.bl false))) aK) aK) (aP (mW (lD K (aE 1)) (aL 2) (aP (eD (uF (tB (bG cE [] E0 (aB (aE 0) (aB (aE 2) aQ))))) (aP (fB (tC (.bl false))) aK) aK) aK)) (aP (fB (aDi (tOp (gX K) (aE 1) (tCB (sS K) (aB (aE 1) aQ))) (tOp (gX K) (tCB aIY (aB (bG fH [] E0 (aB (aE 1) (aB (tC (.int 0)) aQ))) aQ)) (aE 0)))) aK)))
theorem oM (F:Fun K "_law_cis_tree" "_law_cis_tree" (top 38) f fd)(B:lJ mg)    {fH:Sp}(iS:Def P w K mg base "_law_cahead" 1 ["ties","start"] fH){cE:Sp}(dC:Def P w K mg base "_law_cis_tie" 2 ["many","thing"] cE)  {sp:Sp}(len:∀ vs H Q E,sp vs H Q E->vs.length=2)
  (rd:∀ vs H Q E,sp vs H Q E->jF K  fH cE { nx:=fun _ H'=>Q .non H',rt:=Q } (bW ["many","ties","tie"] vs) H):FnOk P w K mg base CX0 3 f fd ["many","ties"] sp:=by
 refine F.ok iX len (fun cdv A outer s H vs Q E hr h=>⟨_,?_,rd vs H Q E h⟩)
 have nd:=iX.nd
 exact (@aA _ _ _ _ _ (@dG _ _ _ _ _ _ _ _ (PW.pt (lV (fN (fM (aN (gF (K:=K) rfl) rfl B.isi iB (@aC _ _ _ _ _ _ (pv 1) (@aC _ _ _ _ _ _ (jR (v := .ty "list") rfl B.list jV rfl) aD))))) (jX (bK (jJ (K:=K) rfl hr) (aN (aZ (K:=K) rfl) rfl B.len cI (@aC _ _ _ _ _ _ (pv 1) aD)) (@aW _ _ _ _ _ _ _ _ eI (pv 0) aG) (bX _))))) (@aA _ _ _ _ _ (@bP _ _ _ _ iM) aI) aI) (@aA _ _ _ _ _ (dR d6 rfl (cG (K:=K) rfl (pv 1)) (aT (i:=2) nd rfl (Or.inl rfl)) (@aA _ _ _ _ _ (@dG _ _ _ _ _ _ _ _ (fN (fM (bH (dC.mono (by decide)) hr rfl (@aC _ _ _ _ _ _ (pv 0) (@aC _ _ _ _ _ _ (pv 2) aD))))) (@aA _ _ _ _ _ (@bP _ _ _ _ iM) aI) aI) aI)) (@aA _ _ _ _ _ (@bP _ _ _ _ (aCs (iH (fL (K:=K) rfl hr) (pv 1) (aN (gH (K:=K) rfl) rfl B.sorted iC (@aC _ _ _ _ _ _ (pv 1) aD)) (bX _)) (aBU (iH (fL (K:=K) rfl hr) (aN aBJ rfl B.len cI (@bA _ _ _ _ _ _ _ _ (bH (iS.mono (by decide)) hr rfl (@aC _ _ _ _ _ _ (pv 1) (@aV _ _ _ _ _ _ _ aG aD))) aD)) (pv 0) (bX _))))) aI)))
theorem hJ:bV ["places","counts","inside","found","some","one","two"] ["places","counts"] (aO (top 39)):=⟨rfl,rfl,rfl,by decide +kernel,rfl,by decide +kernel,by decide +kernel⟩
def iZ (K:ae)   : TS:=(aP (bU (oR (aB (tOp (bF K) (aE 0) (tC (.int 0))) aQ)) (aL 2)) (aP (bU (tC (.int 0)) (aL 3)) (aP (vD (bZ (tOp yLt (tCB (jH K) (aB (aE 2) aQ)) (tCB (jH K) (aB (aE 0) aQ)))) (aP (bU (oR aQ) (aL 4)) (aP (mW (lD K (aE 2)) (aL 5) (aP (mW (lD K (aE 0)) (aL 6) (aP (eD (bZ (tOp (rIn K true) (aE 6) (aE 2))) (aP (jD (tBM K "list" eJ (aE 4) (aB (gW (aB (aEN (aE 1) (gW (aB (tCB qK (aB (aE 5) (aB (aE 6) aQ))) (aB (tCB aFm (aB (aE 5) (aB (aE 6) aQ))) aQ)))) (aB (aE 6) aQ))) aQ))) aK) aK) aK)) aK)) (aP (bU (tOp (bQ K) (aE 3) (tOp (bF K) (tCB (aDN K) (aB (aE 4) aQ)) (tC (.int 0)))) (aL 3)) (aP (jD (tBM K "list" eJ (aE 2) (aB (tOp (bF K) (tCB (aDN K) (aB (aE 4) aQ)) (tC (.int 1))) aQ))) aK))))) (aP (fB (aE 3)) aK))))
theorem mZ (F:Fun K "_law_ctree_sum" "_law_ctree_sum" (top 39) f fd)(B:lJ mg)      {sp:Sp}(len:∀ vs H Q E,sp vs H Q E->vs.length=2)
  (rd:∀ vs H Q E,sp vs H Q E->iZ K   { nx:=fun _ H'=>Q .non H',rt:=Q } (bW ["places","counts","inside","found","some","one","two"] vs) H):FnOk P w K mg base CX0 1 f fd ["places","counts"] sp:=by
 refine F.ok hJ len (fun cdv A outer s H vs Q E hr h=>⟨_,?_,rd vs H Q E h⟩)
 have nd:=hJ.nd
 exact (@aA _ _ _ _ _ (@aY _ _ 2 _ _ _ _ nd rfl (Or.inl rfl) (@fS _ _ _ _ (@bO _ _ _ _ _ _ _ (@bD _ _ _ _ _ _ _ (aU (K:=K) rfl) (pv 0) aG (fun _ _=>rfl)) aD)) (by rfl) (by first | exact .inl rfl | exact .inr rfl | assumption)) (@aA _ _ _ _ _ (@aY _ _ 3 _ _ _ _ nd rfl (Or.inl rfl) aG (by rfl) (by first | exact .inl rfl | exact .inr rfl | assumption)) (@aA _ _ _ _ _ (pC d6 (bK uN (aN (aZ (K:=K) rfl) rfl B.len cI (@aC _ _ _ _ _ _ (pv 2) aD)) (aN (aZ (K:=K) rfl) rfl B.len cI (@aC _ _ _ _ _ _ (pv 0) aD)) (bX _)) (@aA _ _ _ _ _ (@aY _ _ 4 _ _ _ _ nd rfl (Or.inl rfl) (@fS _ _ _ _ aD) (by rfl) (by first | exact .inl rfl | exact .inr rfl | assumption)) (@aA _ _ _ _ _ (dR d6 rfl (cG (K:=K) rfl (pv 2)) (aT (i:=5) nd rfl (Or.inl rfl)) (@aA _ _ _ _ _ (dR d6 rfl (cG (K:=K) rfl (pv 0)) (aT (i:=6) nd rfl (Or.inl rfl)) (@aA _ _ _ _ _ (@dG _ _ _ _ _ _ _ _ (bK (aBQ (K:=K) rfl) (pv 6) (pv 2) rfl) (@aA _ _ _ _ _ (fP (jG (K:=K) rfl fh gv gw eN (pv 4) (@cY _ _ _ _ _ _ _ (@cJ _ _ _ _ _ (@bO _ _ _ _ _ _ _ (aBK (uQ hr) (pv 1) (@cJ _ _ _ _ _ (@bA _ _ _ _ _ _ _ _ (aN (kE rfl) rfl B.min qZ (@aC _ _ _ _ _ _ (pv 5) (@aC _ _ _ _ _ _ (pv 6) aD))) (@bA _ _ _ _ _ _ _ _ (aN (sI rfl) rfl B.max aEp (@aC _ _ _ _ _ _ (pv 5) (@aC _ _ _ _ _ _ (pv 6) aD))) aD))) (fun _ _=>rfl)) (@aC _ _ _ _ _ _ (pv 6) aD))) aD))) aI) aI) aI)) aI)) (@aA _ _ _ _ _ (@aY _ _ 3 _ _ _ _ nd rfl (Or.inl rfl) (@aW _ _ _ _ _ _ _ _ (bJ (K:=K) rfl) (pv 3) (@bD _ _ _ _ _ _ _ (aU (K:=K) rfl) (aN (nE (K:=K) rfl hr rfl) rfl B.min qZ (@aC _ _ _ _ _ _ (pv 4) aD)) aG (fun _ _=>rfl))) (by rfl) (by first | exact .inl rfl | exact .inr rfl | assumption)) (@aA _ _ _ _ _ (fP (jG (K:=K) rfl fh gv gw eN (pv 2) (@bO _ _ _ _ _ _ _ (@bD _ _ _ _ _ _ _ (aU (K:=K) rfl) (aN (nE (K:=K) rfl hr rfl) rfl B.min qZ (@aC _ _ _ _ _ _ (pv 4) aD)) aG (fun _ _=>rfl)) aD))) aI))))) (@aA _ _ _ _ _ (@bP _ _ _ _ (pv 3)) aI))))
theorem kI:bV ["table","prices","by","price","paid","counts","i","j","ones","found"] ["table","prices"] (aO (top 40)):=⟨rfl,rfl,rfl,by decide +kernel,rfl,by decide +kernel,by decide +kernel⟩
def lW (K:ae)  (aS:Sp) (bE:Sp) (dN:Sp):TS:=(aP (bU (tC (.int 1)) (aL 2)) (aP (mW (lD K (aE 1)) (aL 3) (aP (bU (tOp dP (aE 2) (tOp (bF K) (bG aS [] E0 (aB (aE 2) (aB (tOp (bF K) (aE 3) (tC (.int 1))) aQ))) (tC (.int 1)))) (aL 2)) aK)) (aP (bU (fU [none,some 2] (lD K (aE 1)) (aL 0) [] fun acc=>(eX (tOp pQ (tOp dP (tOp (bF K) (aE 0) (tC (.int 0))) (aE 1)) (tOp (bF K) (aE 0) (tC (.int 1)))) acc)) (aL 4)) (aP (bU aEB (aL 5)) (aP (mW (lD K (bG bE [] E0 (aB (tCB (jH K) (aB (aE 0) aQ)) aQ))) (qE K 2 (cO (aL 6) (cO (aL 7) rG))) (aP (aBw (aE 5) (gW (aB (aE 6) (aB (aE 7) aQ))) (tOp iW (tOp iW (tOp dP (tOp (bF K) (tOp (bF K) (aE 0) (aE 6)) (aE 7)) (aE 2)) (tOp (bF K) (aE 4) (aE 6))) (tOp (bF K) (aE 4) (aE 7)))) aK)) (aP (bU (tCB (sS K) (aB (fU [none,some 5] (aCV (aB (tC (.int 1)) (aB (tCB (jH K) (aB (aE 0) aQ)) aQ))) (aL 0) [] fun acc=>(eX (aEN (aE 1) (gW (aB (tC (.int 0)) (aB (aE 0) aQ)))) acc)) aQ)) (aL 8)) (aP (bU (tOp (bQ K) (tOp (bQ K) (tOp (bF K) (aE 8) (tC (.int 0))) (tOp (bF K) (aE 8) (tC (.int 1)))) (bG dN [] E0 (aB (tCB (xT K) (aB (tCB aIM (aB (tC (.int 1)) (aB (tCB (jH K) (aB (aE 0) aQ)) aQ))) aQ)) (aB (aE 5) aQ)))) (aL 9)) (aP (fB (bG aS [] E0 (aB (tOp (bQ K) (aE 9) (tOp dP (tC (.int 2)) (tCB (aHA K) (aB (aE 4) aQ)))) (aB (aE 2) aQ)))) aK))))))))
theorem rW (F:Fun K "_law_cbound" "_law_cbound" (top 40) f fd)(B:lJ mg)    {aS:Sp}(cH:Def P w K mg base "_law_clow" 1 ["top","bottom"] aS){bE:Sp}(dM:Def P w K mg base "_law_cpairs" 1 ["many"] bE){dN:Sp}(fR:Def P w K mg base "_law_ctree_sum" 1 ["places","counts"] dN)  {sp:Sp}(len:∀ vs H Q E,sp vs H Q E->vs.length=2)
  (rd:∀ vs H Q E,sp vs H Q E->lW K  aS bE dN { nx:=fun _ H'=>Q .non H',rt:=Q } (bW ["table","prices","by","price","paid","counts","i","j","ones","found"] vs) H):FnOk P w K mg base CX0 2 f fd ["table","prices"] sp:=by
 refine F.ok kI len (fun cdv A outer s H vs Q E hr h=>⟨_,?_,rd vs H Q E h⟩)
 have nd:=kI.nd
 exact (@aA _ _ _ _ _ (@aY _ _ 2 _ _ _ _ nd rfl (Or.inr rfl) aG (by rfl) (by first | exact .inl rfl | exact .inr rfl | assumption)) (@aA _ _ _ _ _ (dR d6 rfl (cG (K:=K) rfl (pv 1)) (aT (i:=3) nd rfl (Or.inl rfl)) (@aA _ _ _ _ _ (@aY _ _ 2 _ _ _ _ nd rfl (Or.inr rfl) (@aW _ _ _ _ _ _ _ _ cK (pv 2) (@bD _ _ _ _ _ _ _ (aU (K:=K) rfl) (bH (cH.mono (by decide)) hr rfl (@aC _ _ _ _ _ _ (pv 2) (@bO _ _ _ _ _ _ _ (@bD _ _ _ _ _ _ _ (aU (K:=K) rfl) (pv 3) aG (fun _ _=>rfl)) aD))) aG (fun _ _=>rfl))) (by rfl) (by first | exact .inl rfl | exact .inr rfl | assumption)) aI)) (@aA _ _ _ _ _ (hX (i:=4) nd rfl (Or.inl rfl) (N':=["price","by"]) (ix:=[none,some 2]) rfl rfl rfl (cG (K:=K) rfl (pv 1)) (fun _ _ _=>(aT (i:=0) (show (["price","by"]:List Str).Nodup from by decide +kernel) rfl (Or.inl rfl))) (fun _ _ _ => .nil) (fun _ _ _ _=>(cS rfl (@aW _ _ _ _ _ _ _ _ gO (@aW _ _ _ _ _ _ _ _ cK (@bD _ _ _ _ _ _ _ (aU (K:=K) rfl) (pv 0) aG (fun _ _=>rfl)) (pv 1)) (@bD _ _ _ _ _ _ _ (aU (K:=K) rfl) (pv 0) aG (fun _ _=>rfl))) rfl))) (@aA _ _ _ _ _ (@aY _ _ 5 _ _ _ _ nd rfl (Or.inr rfl) aEg (by rfl) (by first | exact .inl rfl | exact .inr rfl | assumption)) (@aA _ _ _ _ _ (dR d6 rfl (cG (K:=K) rfl (bH (dM.mono (by decide)) hr rfl (@bA _ _ _ _ _ _ _ _ (aN (aZ (K:=K) rfl) rfl B.len cI (@aC _ _ _ _ _ _ (pv 0) aD)) aD))) (dD (K:=K) rfl rfl (bC (aT (i:=6) nd rfl (Or.inl rfl)) (bC (aT (i:=7) nd rfl (Or.inl rfl)) dE))) (@aA _ _ _ _ _ (yE (uQ hr) (pv 5) (@cJ _ _ _ _ _ (@aC _ _ _ _ _ _ (pv 6) (@aC _ _ _ _ _ _ (pv 7) aD))) (@aW _ _ _ _ _ _ _ _ eI (@aW _ _ _ _ _ _ _ _ eI (@aW _ _ _ _ _ _ _ _ cK (@bD _ _ _ _ _ _ _ (aU (K:=K) rfl) (@bD _ _ _ _ _ _ _ (aU (K:=K) rfl) (pv 0) (pv 6) (fun _ _=>rfl)) (pv 7) (fun _ _=>rfl)) (pv 2)) (@bD _ _ _ _ _ _ _ (aU (K:=K) rfl) (pv 4) (pv 6) (fun _ _=>rfl))) (@bD _ _ _ _ _ _ _ (aU (K:=K) rfl) (pv 4) (pv 7) (fun _ _=>rfl))) rfl) aI)) (@aA _ _ _ _ _ (@aY _ _ 8 _ _ _ _ nd rfl (Or.inl rfl) (aN (gH (K:=K) rfl) rfl B.sorted iC (cW (dQ (N':=["j","counts"]) (ix:=[none,some 5]) rfl rfl rfl (qB rfl B.range (@aV _ _ _ _ _ _ _ aG (@bA _ _ _ _ _ _ _ _ (aN (aZ (K:=K) rfl) rfl B.len cI (@aC _ _ _ _ _ _ (pv 0) aD)) aD))) (fun _ _ _=>(aT (i:=0) (show (["j","counts"]:List Str).Nodup from by decide +kernel) rfl (Or.inl rfl))) (fun _ _ _ => .nil) (fun _ _ _ _=>(cS rfl (aBK (uQ hr) (pv 1) (@cJ _ _ _ _ _ (@aV _ _ _ _ _ _ _ aG (@aC _ _ _ _ _ _ (pv 0) aD))) (fun _ _=>rfl)) rfl))) aD)) (by rfl) (by first | exact .inl rfl | exact .inr rfl | assumption)) (@aA _ _ _ _ _ (@aY _ _ 9 _ _ _ _ nd rfl (Or.inl rfl) (@aW _ _ _ _ _ _ _ _ (bJ (K:=K) rfl) (@aW _ _ _ _ _ _ _ _ (bJ (K:=K) rfl) (@bD _ _ _ _ _ _ _ (aU (K:=K) rfl) (pv 8) aG (fun _ _=>rfl)) (@bD _ _ _ _ _ _ _ (aU (K:=K) rfl) (pv 8) aG (fun _ _=>rfl))) (bH (fR.mono (by decide)) hr rfl (@bA _ _ _ _ _ _ _ _ (cD (gB (K:=K) rfl rfl) rfl B.list jV (@bA _ _ _ _ _ _ _ _ (cD wS rfl B.range zG (@aV _ _ _ _ _ _ _ aG (@bA _ _ _ _ _ _ _ _ (aN (aZ (K:=K) rfl) rfl B.len cI (@aC _ _ _ _ _ _ (pv 0) aD)) aD))) aD)) (@aC _ _ _ _ _ _ (pv 5) aD)))) (by rfl) (by first | exact .inl rfl | exact .inr rfl | assumption)) (@aA _ _ _ _ _ (@bP _ _ _ _ (bH (cH.mono (by decide)) hr rfl (@cA _ _ _ _ _ _ _ _ (@aW _ _ _ _ _ _ _ _ (bJ (K:=K) rfl) (pv 9) (@aW _ _ _ _ _ _ _ _ cK aG (aN (mO (K:=K) rfl rfl) rfl B.sum zY (@aC _ _ _ _ _ _ (pv 4) aD)))) (@aC _ _ _ _ _ _ (pv 2) aD)))) aI))))))))
theorem jS:bV ["feed","many","found","k","way","top","bottom"] ["feed","many"] (aO (top 41)):=⟨rfl,rfl,rfl,by decide +kernel,rfl,by decide +kernel,by decide +kernel⟩
def kO (K:ae)  (aH:Sp) (aS:Sp):TS:=(aP (bU (oR aQ) (aL 2)) (aP (mW (lQ (aB (aE 1) aQ)) (aL 3) (aP (bU (bG aH [] E0 (aB (aE 0) (aB (tC (.int 6)) aQ))) (aL 4)) (aP (bU (tOp iW (bG aH [] E0 (aB (aE 0) (aB (tC (.int 9)) aQ))) (tOp dP (tC (.int 4)) (tCB yI (aB (tOp yLt (aE 4) (tC (.int 4))) aQ)))) (aL 5)) (aP (eD (bZ (tOp (gX K) (aE 4) (tC (.int 4)))) (aP (bU (tOp iW (bG aH [] E0 (aB (aE 0) (aB (tOp oX (tC (.int 10)) (tC (.int 20))) aQ))) (tOp dP (tC (.int 5)) (tOp oX (tC (.int 10)) (tC (.int 19))))) (aL 5)) aK) aK) (aP (eD (bZ (tOp (gX K) (aE 4) (tC (.int 5)))) (aP (bU (tOp iW (bG aH [] E0 (aB (aE 0) (aB (tOp oX (tC (.int 10)) (tC (.int 6))) aQ))) (tOp oX (tC (.int 10)) (tC (.int 5)))) (aL 5)) aK) aK) (aP (bU (tOp (bQ K) (tC (.int 1)) (tOp dP (bG aH [] E0 (aB (aE 0) (aB (tC (.int 20)) aQ))) (tCB yI (aB (tOp yGt (aE 4) (tC (.int 0))) aQ)))) (aL 6)) (aP (eD (bZ (tOp (gX K) (bG aH [] E0 (aB (aE 0) (aB (tC (.int 8)) aQ))) (tC (.int 7)))) (aP (bU (tOp (bF K) (oR (aB (tC (.int 23)) (aB (tC (.int 97)) (aB (tOp (bQ K) (tOp oX (tC (.int 10)) (tC (.int 9))) (tC (.int 7))) aQ)))) (bG aH [] E0 (aB (aE 0) (aB (tC (.int 3)) aQ)))) (aL 6)) aK) aK) (aP (jD (tBM K "list" eJ (aE 2) (aB (bG aS [] E0 (aB (aE 5) (aB (aE 6) aQ))) aQ))) aK)))))))) (aP (fB (tCB (kQ K) (aB (aE 2) aQ))) aK)))
theorem pN (F:Fun K "_law_cprices" "_law_cprices" (top 41) f fd)(B:lJ mg)    {aH:Sp}(bB:Def P w K mg base "_law_cdraw" 2 ["feed","many"] aH){aS:Sp}(cH:Def P w K mg base "_law_clow" 1 ["top","bottom"] aS)  {sp:Sp}(len:∀ vs H Q E,sp vs H Q E->vs.length=2)
  (rd:∀ vs H Q E,sp vs H Q E->kO K  aH aS { nx:=fun _ H'=>Q .non H',rt:=Q } (bW ["feed","many","found","k","way","top","bottom"] vs) H):FnOk P w K mg base CX0 3 f fd ["feed","many"] sp:=by
 refine F.ok jS len (fun cdv A outer s H vs Q E hr h=>⟨_,?_,rd vs H Q E h⟩)
 have nd:=jS.nd
 exact (@aA _ _ _ _ _ (@aY _ _ 2 _ _ _ _ nd rfl (Or.inl rfl) (@fS _ _ _ _ aD) (by rfl) (by first | exact .inl rfl | exact .inr rfl | assumption)) (@aA _ _ _ _ _ (dR d6 rfl (dA rfl B.range (@aC _ _ _ _ _ _ (pv 1) aD)) (aT (i:=3) nd rfl (Or.inl rfl)) (@aA _ _ _ _ _ (@aY _ _ 4 _ _ _ _ nd rfl (Or.inl rfl) (bH (bB.mono (by decide)) hr rfl (@aC _ _ _ _ _ _ (pv 0) (@aV _ _ _ _ _ _ _ aG aD))) (by rfl) (by first | exact .inl rfl | exact .inr rfl | assumption)) (@aA _ _ _ _ _ (@aY _ _ 5 _ _ _ _ nd rfl (Or.inl rfl) (@aW _ _ _ _ _ _ _ _ eI (bH (bB.mono (by decide)) hr rfl (@aC _ _ _ _ _ _ (pv 0) (@aV _ _ _ _ _ _ _ aG aD))) (@aW _ _ _ _ _ _ _ _ cK aG (cD nK rfl B.int zB (cW (iH uN (pv 4) aG (bX _)) aD)))) (by rfl) (by first | exact .inl rfl | exact .inr rfl | assumption)) (@aA _ _ _ _ _ (@dG _ _ _ _ _ _ _ _ (bK (fL (K:=K) rfl hr) (pv 4) aG (bX _)) (@aA _ _ _ _ _ (@aY _ _ 5 _ _ _ _ nd rfl (Or.inl rfl) (@aW _ _ _ _ _ _ _ _ eI (bH (bB.mono (by decide)) hr rfl (@aC _ _ _ _ _ _ (pv 0) (@cA _ _ _ _ _ _ _ _ (@aW _ _ _ _ _ _ _ _ nP aG aG) aD))) (@aW _ _ _ _ _ _ _ _ cK aG (@aW _ _ _ _ _ _ _ _ nP aG aG))) (by rfl) (by first | exact .inl rfl | exact .inr rfl | assumption)) aI) aI) (@aA _ _ _ _ _ (@dG _ _ _ _ _ _ _ _ (bK (fL (K:=K) rfl hr) (pv 4) aG (bX _)) (@aA _ _ _ _ _ (@aY _ _ 5 _ _ _ _ nd rfl (Or.inl rfl) (@aW _ _ _ _ _ _ _ _ eI (bH (bB.mono (by decide)) hr rfl (@aC _ _ _ _ _ _ (pv 0) (@cA _ _ _ _ _ _ _ _ (@aW _ _ _ _ _ _ _ _ nP aG aG) aD))) (@aW _ _ _ _ _ _ _ _ nP aG aG)) (by rfl) (by first | exact .inl rfl | exact .inr rfl | assumption)) aI) aI) (@aA _ _ _ _ _ (@aY _ _ 6 _ _ _ _ nd rfl (Or.inl rfl) (@aW _ _ _ _ _ _ _ _ (bJ (K:=K) rfl) aG (@aW _ _ _ _ _ _ _ _ cK (bH (bB.mono (by decide)) hr rfl (@aC _ _ _ _ _ _ (pv 0) (@aV _ _ _ _ _ _ _ aG aD))) (cD nK rfl B.int zB (cW (iH aAn (pv 4) aG (bX _)) aD)))) (by rfl) (by first | exact .inl rfl | exact .inr rfl | assumption)) (@aA _ _ _ _ _ (@dG _ _ _ _ _ _ _ _ (bK (fL (K:=K) rfl hr) (bH (bB.mono (by decide)) hr rfl (@aC _ _ _ _ _ _ (pv 0) (@aV _ _ _ _ _ _ _ aG aD))) aG (bX _)) (@aA _ _ _ _ _ (@aY _ _ 6 _ _ _ _ nd rfl (Or.inl rfl) (@bD _ _ _ _ _ _ _ (aU (K:=K) rfl) (@fS _ _ _ _ (@aV _ _ _ _ _ _ _ aG (@aV _ _ _ _ _ _ _ aG (@cA _ _ _ _ _ _ _ _ (@aW _ _ _ _ _ _ _ _ (bJ (K:=K) rfl) (@aW _ _ _ _ _ _ _ _ nP aG aG) aG) aD)))) (bH (bB.mono (by decide)) hr rfl (@aC _ _ _ _ _ _ (pv 0) (@aV _ _ _ _ _ _ _ aG aD))) (fun _ _=>rfl)) (by rfl) (by first | exact .inl rfl | exact .inr rfl | assumption)) aI) aI) (@aA _ _ _ _ _ (fP (jG (K:=K) rfl fh gv gw eN (pv 2) (@bA _ _ _ _ _ _ _ _ (bH (cH.mono (by decide)) hr rfl (@aC _ _ _ _ _ _ (pv 5) (@aC _ _ _ _ _ _ (pv 6) aD))) aD))) aI)))))))) (@aA _ _ _ _ _ (@bP _ _ _ _ (cD (eB (K:=K) rfl) rfl B.tuple fA (@aC _ _ _ _ _ _ (pv 2) aD))) aI)))
theorem jI:bV ["table","prices","told","bound","ties","many","others","counted_v","i","j","place","whole"] ["table","prices","told"] (aO (top 42)):=⟨rfl,rfl,rfl,by decide +kernel,rfl,by decide +kernel,by decide +kernel⟩
def kJ (K:ae)  (fI:Sp) (cU:Sp) (cE:Sp) (eA:Sp) (fY:Sp):TS:=(aP (eD (tOr (uF (tB (tCB (aDy K) (aB (aE 2) (aB (tC (.ty "tuple")) aQ))))) (tOr (bZ (tOp (xH K) (tCB (jH K) (aB (aE 2) aQ)) (tC (.int 2)))) (uF (tB (tCB (aDy K) (aB (tOp (bF K) (aE 2) (tC (.int 1))) (aB (tC (.ty "list")) aQ))))))) (aP (fB (tC (.bl false))) aK) aK) (aP (bU (aE 2) (qE K 2 (cO (aL 3) (cO (aL 4) rG)))) (aP (bU (tCB (jH K) (aB (aE 0) aQ)) (aL 5)) (aP (eD (tOr (uF (tB (bG cU [] E0 (aB (aE 3) aQ)))) (bZ (tOp (xH K) (tCB (jH K) (aB (aE 4) aQ)) (aE 5)))) (aP (fB (tC (.bl false))) aK) aK) (aP (eD (bZ (tOp (rIn K false) (tC (.bl false)) (fU [none,some 5] (lD K (aE 4)) (aL 0) [] fun acc=>(eX (bG cE [] E0 (aB (aE 1) (aB (aE 0) aQ))) acc)))) (aP (fB (tC (.bl false))) aK) aK) (aP (eD (bZ (tOp (xH K) (aE 4) (tCB (aGK K) (aB (aE 4) aQ)))) (aP (fB (tC (.bl false))) aK) aK) (aP (bU (fU [none,none] (lD K (aE 4)) (qE K 2 (cO (aL 0) (cO (aL 1) rG))) [(bZ (tOp yGt (aE 0) (tC (.int 0))))] fun acc=>(eX (gW (aB (tOp iW (aE 0) (tC (.int 1))) (aB (tOp iW (aE 1) (tC (.int 1))) aQ))) acc)) (aL 6)) (aP (eD (tOr (bZ (tOp (xH K) (tCB (jH K) (aB (aE 6) aQ)) (tOp iW (aE 5) (tC (.int 2))))) (uF (tB (bG eA [] E0 (aB (tOp iW (aE 5) (tC (.int 1))) (aB (aE 6) aQ)))))) (aP (fB (tC (.bl false))) aK) aK) (aP (bU (oR aQ) (aL 7)) (aP (mW (lD K (aE 4)) (qE K 2 (cO (aL 8) (cO (aL 9) rG))) (aP (mW (lD K (gW (aB (aE 8) (aB (aE 9) aQ)))) (aL 10) (aP (jD (tBM K "list" eJ (aE 7) (aB (gW (aB (tOp iW (tC (.int 0)) (tOp (bF K) (tOp (bF K) (aE 1) (aE 10)) (tC (.int 0)))) (aB (tOp (bF K) (tOp (bF K) (aE 1) (aE 10)) (tC (.int 1))) aQ))) aQ))) aK)) (aP (jD (tBM K "list" eJ (aE 7) (aB (gW (aB (tOp (bF K) (tOp (bF K) (aE 0) (aE 8)) (aE 9)) (aB (tC (.int 1)) aQ))) aQ))) aK))) (aP (bU (bG fY [] E0 (aB (tOp (bQ K) (tOp (bQ K) (aE 7) (tCB (xT K) (aB (aE 1) aQ))) (tCB (xT K) (aB (aE 1) aQ))) aQ)) (aL 11)) (aP (fB (aDi (tOp (gX K) (aE 3) (aE 11)) (tOp (gX K) (aE 3) (bG fI [] E0 (aB (aE 0) (aB (aE 1) aQ)))))) aK))))))))))))
theorem qN (F:Fun K "_law_c_right" "_law_c_right" (top 42) f fd)(B:lJ mg)    {fI:Sp}(iT:Def P w K mg base "_law_cbound" 2 ["table","prices"] fI){cU:Sp}(eG:Def P w K mg base "_law_cis_fraction" 2 ["thing"] cU){cE:Sp}(dC:Def P w K mg base "_law_cis_tie" 2 ["many","thing"] cE){eA:Sp}(gL:Def P w K mg base "_law_cis_tree" 3 ["many","ties"] eA){fY:Sp}(jZ:Def P w K mg base "_law_cplus" 2 ["some"] fY)  {sp:Sp}(len:∀ vs H Q E,sp vs H Q E->vs.length=3)
  (rd:∀ vs H Q E,sp vs H Q E->kJ K  fI cU cE eA fY { nx:=fun _ H'=>Q .non H',rt:=Q } (bW ["table","prices","told","bound","ties","many","others","counted_v","i","j","place","whole"] vs) H):FnOk P w K mg base CX0 4 f fd ["table","prices","told"] sp:=by
 refine F.ok jI len (fun cdv A outer s H vs Q E hr h=>⟨_,?_,rd vs H Q E h⟩)
 have nd:=jI.nd
 exact (@aA _ _ _ _ _ (@dG _ _ _ _ _ _ _ _ (PW.pt (lV (fN (fM (aN (gF (K:=K) rfl) rfl B.isi iB (@aC _ _ _ _ _ _ (pv 2) (@aC _ _ _ _ _ _ (jR (v := .ty "tuple") rfl B.tuple fA rfl) aD))))) (lV (bK (jJ (K:=K) rfl hr) (aN (aZ (K:=K) rfl) rfl B.len cI (@aC _ _ _ _ _ _ (pv 2) aD)) aG (bX _)) (jX (fN (fM (aN (gF (K:=K) rfl) rfl B.isi iB (@bO _ _ _ _ _ _ _ (@bD _ _ _ _ _ _ _ (aU (K:=K) rfl) (pv 2) aG (fun _ _=>rfl)) (@aC _ _ _ _ _ _ (jR (v := .ty "list") rfl B.list jV rfl) aD))))))))) (@aA _ _ _ _ _ (@bP _ _ _ _ iM) aI) aI) (@aA _ _ _ _ _ (jB (pv 2) (dD (K:=K) rfl rfl (bC (aT (i:=3) nd rfl (Or.inl rfl)) (bC (aT (i:=4) nd rfl (Or.inl rfl)) dE)))) (@aA _ _ _ _ _ (@aY _ _ 5 _ _ _ _ nd rfl (Or.inr rfl) (aN (aZ (K:=K) rfl) rfl B.len cI (@aC _ _ _ _ _ _ (pv 0) aD)) (by rfl) (by first | exact .inl rfl | exact .inr rfl | assumption)) (@aA _ _ _ _ _ (@dG _ _ _ _ _ _ _ _ (PW.pt (lV (fN (fM (bH (eG.mono (by decide)) hr rfl (@aC _ _ _ _ _ _ (pv 3) aD)))) (jX (bK (jJ (K:=K) rfl hr) (aN (aZ (K:=K) rfl) rfl B.len cI (@aC _ _ _ _ _ _ (pv 4) aD)) (pv 5) (bX _))))) (@aA _ _ _ _ _ (@bP _ _ _ _ iM) aI) aI) (@aA _ _ _ _ _ (@dG _ _ _ _ _ _ _ _ (bK (aHt (K:=K) rfl) iM (dQ (N':=["tie","many"]) (ix:=[none,some 5]) rfl rfl rfl (cG (K:=K) rfl (pv 4)) (fun _ _ _=>(aT (i:=0) (show (["tie","many"]:List Str).Nodup from by decide +kernel) rfl (Or.inl rfl))) (fun _ _ _ => .nil) (fun _ _ _ _=>(cS rfl (bH (dC.mono (by decide)) hr rfl (@aC _ _ _ _ _ _ (pv 1) (@aC _ _ _ _ _ _ (pv 0) aD))) rfl))) rfl) (@aA _ _ _ _ _ (@bP _ _ _ _ iM) aI) aI) (@aA _ _ _ _ _ (@dG _ _ _ _ _ _ _ _ (bK (jJ (K:=K) rfl hr) (pv 4) (aFQ (K:=K) rfl rfl hr rfl B.sorted iC rfl B.set aHk (@aC _ _ _ _ _ _ (pv 4) aD)) (bX _)) (@aA _ _ _ _ _ (@bP _ _ _ _ iM) aI) aI) (@aA _ _ _ _ _ (hX (i:=6) nd rfl (Or.inl rfl) (N':=["i","j"]) (ix:=[none,none]) rfl rfl rfl (cG (K:=K) rfl (pv 4)) (fun _ _ _=>(dD (K:=K) rfl rfl (bC (aT (i:=0) (show (["i","j"]:List Str).Nodup from by decide +kernel) rfl (Or.inl rfl)) (bC (aT (i:=1) (show (["i","j"]:List Str).Nodup from by decide +kernel) rfl (Or.inl rfl)) dE)))) (fun _ _ _=>(.cons (bK aAn (pv 0) aG (bX _)) .nil)) (fun _ _ _ _=>(cS rfl (@cJ _ _ _ _ _ (@cA _ _ _ _ _ _ _ _ (@aW _ _ _ _ _ _ _ _ eI (pv 0) aG) (@cA _ _ _ _ _ _ _ _ (@aW _ _ _ _ _ _ _ _ eI (pv 1) aG) aD))) rfl))) (@aA _ _ _ _ _ (@dG _ _ _ _ _ _ _ _ (PW.pt (lV (bK (jJ (K:=K) rfl hr) (aN (aZ (K:=K) rfl) rfl B.len cI (@aC _ _ _ _ _ _ (pv 6) aD)) (@aW _ _ _ _ _ _ _ _ eI (pv 5) aG) (bX _)) (jX (fN (fM (bH (gL.mono (by decide)) hr rfl (@cA _ _ _ _ _ _ _ _ (@aW _ _ _ _ _ _ _ _ eI (pv 5) aG) (@aC _ _ _ _ _ _ (pv 6) aD)))))))) (@aA _ _ _ _ _ (@bP _ _ _ _ iM) aI) aI) (@aA _ _ _ _ _ (@aY _ _ 7 _ _ _ _ nd rfl (Or.inl rfl) (@fS _ _ _ _ aD) (by rfl) (by first | exact .inl rfl | exact .inr rfl | assumption)) (@aA _ _ _ _ _ (dR d6 rfl (cG (K:=K) rfl (pv 4)) (dD (K:=K) rfl rfl (bC (aT (i:=8) nd rfl (Or.inl rfl)) (bC (aT (i:=9) nd rfl (Or.inl rfl)) dE))) (@aA _ _ _ _ _ (@dR _ _ _ _ _ _ _ _ d6 rfl (@cG _ K _ _ _ rfl (@cJ _ _ _ _ _ (@aC _ _ _ _ _ _ (pv 8) (@aC _ _ _ _ _ _ (pv 9) aD)))) (aT (i:=10) nd rfl (Or.inl rfl)) (@aA _ _ _ _ _ (fP (jG (K:=K) rfl fh gv gw eN (pv 7) (@cY _ _ _ _ _ _ _ (@cJ _ _ _ _ _ (@cA _ _ _ _ _ _ _ _ (@aW _ _ _ _ _ _ _ _ eI aG (@bD _ _ _ _ _ _ _ (aU (K:=K) rfl) (@bD _ _ _ _ _ _ _ (aU (K:=K) rfl) (pv 1) (pv 10) (fun _ _=>rfl)) aG (fun _ _=>rfl))) (@bO _ _ _ _ _ _ _ (@bD _ _ _ _ _ _ _ (aU (K:=K) rfl) (@bD _ _ _ _ _ _ _ (aU (K:=K) rfl) (pv 1) (pv 10) (fun _ _=>rfl)) aG (fun _ _=>rfl)) aD))) aD))) aI) (by intro _;rfl)) (@aA _ _ _ _ _ (fP (jG (K:=K) rfl fh gv gw eN (pv 7) (@cY _ _ _ _ _ _ _ (@cJ _ _ _ _ _ (@bO _ _ _ _ _ _ _ (@bD _ _ _ _ _ _ _ (aU (K:=K) rfl) (@bD _ _ _ _ _ _ _ (aU (K:=K) rfl) (pv 0) (pv 8) (fun _ _=>rfl)) (pv 9) (fun _ _=>rfl)) (@aV _ _ _ _ _ _ _ aG aD))) aD))) aI))) (@aA _ _ _ _ _ (@aY _ _ 11 _ _ _ _ nd rfl (Or.inl rfl) (bH (jZ.mono (by decide)) hr rfl (@cA _ _ _ _ _ _ _ _ (@aW _ _ _ _ _ _ _ _ (bJ (K:=K) rfl) (@aW _ _ _ _ _ _ _ _ (bJ (K:=K) rfl) (pv 7) (cD (gB (K:=K) rfl rfl) rfl B.list jV (@aC _ _ _ _ _ _ (pv 1) aD))) (cD (gB (K:=K) rfl rfl) rfl B.list jV (@aC _ _ _ _ _ _ (pv 1) aD))) aD)) (by rfl) (by first | exact .inl rfl | exact .inr rfl | assumption)) (@aA _ _ _ _ _ (@bP _ _ _ _ (aCs (iH (fL (K:=K) rfl hr) (pv 3) (pv 11) (bX _)) (aBU (iH (fL (K:=K) rfl hr) (pv 3) (bH (iT.mono (by decide)) hr rfl (@aC _ _ _ _ _ _ (pv 0) (@aC _ _ _ _ _ _ (pv 1) aD))) (bX _))))) aI))))))))))))
theorem aEH:bV ["script","feed","turn","table","prices","again","told","other"] ["script"] (aO (top 43)):=⟨rfl,rfl,rfl,by decide +kernel,rfl,by decide +kernel,by decide +kernel⟩
def aGI (K:ae) (C_hung:Addr) (dI:Sp) (eP:Sp) (fZ:Sp) (eQ:Sp) (dB:Sp) (dJ:Sp) (rD:Sp):TS:=(aP (bU (bG fZ [] E0 (aB (aE 0) aQ)) (aL 1)) (aP (mW (lQ (aB (tC (.int 3)) aQ)) (aL 2) (aP (bU (bG eP [] E0 (aB (aE 1) (aB (tC (.int 3)) (aB (tC (.int 8)) aQ)))) (aL 3)) (aP (bU (bG eQ [] E0 (aB (aE 1) (aB (tCB (jH K) (aB (aE 3) aQ)) aQ))) (aL 4)) (aP (mW (lQ (aB (tC (.int 2)) aQ)) (aL 5) (aP (bU (bG rD [] E0 (aB (aE 3) (aB (aE 4) aQ))) (aL 6)) (aP (eD (uF (tB (bG dI [] E0 (aB (aE 3) (aB (aE 4) (aB (aE 6) aQ)))))) (aP (fB (tC (.bl false))) aK) aK) (aP (jD (tBM K "list" eJ (tOp (bF K) (aE 6) (tC (.int 1))) (aB (tC (.int 0)) aQ))) (aP (bU (bG eP [] E0 (aB (aE 1) (aB (tCB (jH K) (aB (aE 3) aQ)) (aB (tCB (jH K) (aB (aE 3) aQ)) aQ)))) (aL 7)) (aP (eD (uF (tB (bG dI [] E0 (aB (aE 7) (aB (aE 4) (aB (bG rD [] E0 (aB (aE 7) (aB (aE 4) aQ))) aQ)))))) (aP (fB (tC (.bl false))) aK) aK) aK)))))) (aP (mW (lD K (oR (aB (bG dJ [] E0 (aB (aE 1) (aB (aE 3) aQ))) (aB (bG dJ [] E0 (aB (aE 1) (aB (gW (aB (gW (aB (tC (.int 0)) (aB (tC (.int 1)) aQ))) (aB (gW (aB (tC (.int 1)) (aB (tC (.int 0)) aQ))) aQ))) aQ))) aQ)))) (aL 7) (aP (eD (bZ (tOp (xH K) (bG dB [] E0 (aB (gW (aB (tC (.ref C_hung)) (aB (aE 7) (aB (tSl (uX K) (aE 4) dF (jC (tCB (jH K) (aB (aE 7) aQ)))) aQ)))) aQ)) (tC (.str "even")))) (aP (fB (tC (.bl false))) aK) aK) aK)) (aP (mW (lD K (oR (aB (gW (aB (gW (aB (tC (.int 0)) aQ)) aQ)) (aB (gW (aB (gW (aB (tC (.int 0)) (aB (tC (.int 5)) aQ))) (aB (gW (aB (tC (.int 5)) (aB (tC (.int 0)) aQ))) aQ))) aQ)))) (aL 7) (aP (eD (bZ (tOp (xH K) (bG dB [] E0 (aB (gW (aB (tC (.ref C_hung)) (aB (aE 7) (aB (tSl (uX K) (aE 4) dF (jC (tCB (jH K) (aB (aE 7) aQ)))) aQ)))) aQ)) (tC (.str "few")))) (aP (fB (tC (.bl false))) aK) aK) aK)) aK)))))) (aP (fB (tC (.bl true))) aK)))
theorem aGN (F:Fun K "law" "law" (top 43) f fd)(B:lJ mg)  {C_hung:Addr}(GC_hung:mg "hung" = some (.ref C_hung))  {dI:Sp}(fJ:Def P w K mg base "_law_c_right" 4 ["table","prices","told"] dI){eP:Sp}(gQ:Def P w K mg base "_law_ceven" 3 ["feed","least","most"] eP){fZ:Sp}(kA:Def P w K mg base "_law_copen" 1 ["script"] fZ){eQ:Sp}(gY:Def P w K mg base "_law_cprices" 3 ["feed","many"] eQ){dB:Sp}(eU:Def P w K mg base "_law_crefused" 4 ["act"] dB){dJ:Sp}(fK:Def P w K mg base "_law_cuneven" 3 ["feed","table"] dJ){rD:Sp}(rE:DefX P w K mg base "hung" 3 ["table","prices"] rD){sp:Sp}(len:∀ vs H Q E,sp vs H Q E->vs.length=1)
  (rd:∀ vs H Q E,sp vs H Q E->aGI K C_hung dI eP fZ eQ dB dJ rD { nx:=fun _ H'=>Q .non H',rt:=Q } (bW ["script","feed","turn","table","prices","again","told","other"] vs) H):FnOk P w K mg base CX0 5 f fd ["script"] sp:=by
 refine F.ok aEH len (fun cdv A outer s H vs Q E hr h=>⟨_,?_,rd vs H Q E h⟩)
 have nd:=aEH.nd
 exact (@aA _ _ _ _ _ (@aY _ _ 1 _ _ _ _ nd rfl (Or.inl rfl) (bH (kA.mono (by decide)) hr rfl (@aC _ _ _ _ _ _ (pv 0) aD)) (by rfl) (by first | exact .inl rfl | exact .inr rfl | assumption)) (@aA _ _ _ _ _ (dR d6 rfl (dA rfl B.range (@aV _ _ _ _ _ _ _ aG aD)) (aT (i:=2) nd rfl (Or.inl rfl)) (@aA _ _ _ _ _ (@aY _ _ 3 _ _ _ _ nd rfl (Or.inl rfl) (bH (gQ.mono (by decide)) hr rfl (@aC _ _ _ _ _ _ (pv 1) (@aV _ _ _ _ _ _ _ aG (@aV _ _ _ _ _ _ _ aG aD)))) (by rfl) (by first | exact .inl rfl | exact .inr rfl | assumption)) (@aA _ _ _ _ _ (@aY _ _ 4 _ _ _ _ nd rfl (Or.inl rfl) (bH (gY.mono (by decide)) hr rfl (@aC _ _ _ _ _ _ (pv 1) (@bA _ _ _ _ _ _ _ _ (aN (aZ (K:=K) rfl) rfl B.len cI (@aC _ _ _ _ _ _ (pv 3) aD)) aD))) (by rfl) (by first | exact .inl rfl | exact .inr rfl | assumption)) (@aA _ _ _ _ _ (dR d6 rfl (dA rfl B.range (@aV _ _ _ _ _ _ _ aG aD)) (aT (i:=5) nd rfl (Or.inl rfl)) (@aA _ _ _ _ _ (@aY _ _ 6 _ _ _ _ nd rfl (Or.inl rfl) (yK (rE.mono (by decide)) hr rfl aBB (@aC _ _ _ _ _ _ (pv 3) (@aC _ _ _ _ _ _ (pv 4) aD))) (by rfl) (by first | exact .inl rfl | exact .inr rfl | assumption)) (@aA _ _ _ _ _ (@dG _ _ _ _ _ _ _ _ (fN (fM (bH (fJ.mono (by decide)) hr rfl (@aC _ _ _ _ _ _ (pv 3) (@aC _ _ _ _ _ _ (pv 4) (@aC _ _ _ _ _ _ (pv 6) aD)))))) (@aA _ _ _ _ _ (@bP _ _ _ _ iM) aI) aI) (@aA _ _ _ _ _ (fP (jG (K:=K) rfl fh gv gw eN (@bD _ _ _ _ _ _ _ (aU (K:=K) rfl) (pv 6) aG (fun _ _=>rfl)) (@aV _ _ _ _ _ _ _ aG aD))) (@aA _ _ _ _ _ (@aY _ _ 7 _ _ _ _ nd rfl (Or.inl rfl) (bH (gQ.mono (by decide)) hr rfl (@aC _ _ _ _ _ _ (pv 1) (@bA _ _ _ _ _ _ _ _ (aN (aZ (K:=K) rfl) rfl B.len cI (@aC _ _ _ _ _ _ (pv 3) aD)) (@bA _ _ _ _ _ _ _ _ (aN (aZ (K:=K) rfl) rfl B.len cI (@aC _ _ _ _ _ _ (pv 3) aD)) aD)))) (by rfl) (by first | exact .inl rfl | exact .inr rfl | assumption)) (@aA _ _ _ _ _ (@dG _ _ _ _ _ _ _ _ (fN (fM (bH (fJ.mono (by decide)) hr rfl (@aC _ _ _ _ _ _ (pv 7) (@aC _ _ _ _ _ _ (pv 4) (@bA _ _ _ _ _ _ _ _ (yK (rE.mono (by decide)) hr rfl aBB (@aC _ _ _ _ _ _ (pv 7) (@aC _ _ _ _ _ _ (pv 4) aD))) aD)))))) (@aA _ _ _ _ _ (@bP _ _ _ _ iM) aI) aI) aI)))))) (@aA _ _ _ _ _ (@dR _ _ _ _ _ _ _ _ d6 rfl (@cG _ K _ _ _ rfl (@fS _ _ _ _ (@bA _ _ _ _ _ _ _ _ (bH (fK.mono (by decide)) hr rfl (@aC _ _ _ _ _ _ (pv 1) (@aC _ _ _ _ _ _ (pv 3) aD))) (@bA _ _ _ _ _ _ _ _ (bH (fK.mono (by decide)) hr rfl (@aC _ _ _ _ _ _ (pv 1) (@cY _ _ _ _ _ _ _ (@cJ _ _ _ _ _ (@cY _ _ _ _ _ _ _ (@cJ _ _ _ _ _ (@aV _ _ _ _ _ _ _ aG (@aV _ _ _ _ _ _ _ aG aD))) (@cY _ _ _ _ _ _ _ (@cJ _ _ _ _ _ (@aV _ _ _ _ _ _ _ aG (@aV _ _ _ _ _ _ _ aG aD))) aD))) aD))) aD)))) (aT (i:=7) nd rfl (Or.inl rfl)) (@aA _ _ _ _ _ (@dG _ _ _ _ _ _ _ _ (bK (jJ (K:=K) rfl hr) (bH (eU.mono (by decide)) hr rfl (@cY _ _ _ _ _ _ _ (@cJ _ _ _ _ _ (@aC _ _ _ _ _ _ (gR (v := .ref C_hung) rfl GC_hung rfl) (@aC _ _ _ _ _ _ (pv 7) (@bO _ _ _ _ _ _ _ (fD (sG (K:=K) rfl) (pv 4) gT (gU (aN (aZ (K:=K) rfl) rfl B.len cI (@aC _ _ _ _ _ _ (pv 7) aD)))) aD)))) aD)) nT (bX _)) (@aA _ _ _ _ _ (@bP _ _ _ _ iM) aI) aI) aI) (by intro _;rfl)) (@aA _ _ _ _ _ (@dR _ _ _ _ _ _ _ _ d6 rfl (@cG _ K _ _ _ rfl (@fS _ _ _ _ (@cY _ _ _ _ _ _ _ (@cJ _ _ _ _ _ (@cY _ _ _ _ _ _ _ (@cJ _ _ _ _ _ (@aV _ _ _ _ _ _ _ aG aD)) aD)) (@cY _ _ _ _ _ _ _ (@cJ _ _ _ _ _ (@cY _ _ _ _ _ _ _ (@cJ _ _ _ _ _ (@aV _ _ _ _ _ _ _ aG (@aV _ _ _ _ _ _ _ aG aD))) (@cY _ _ _ _ _ _ _ (@cJ _ _ _ _ _ (@aV _ _ _ _ _ _ _ aG (@aV _ _ _ _ _ _ _ aG aD))) aD))) aD)))) (aT (i:=7) nd rfl (Or.inl rfl)) (@aA _ _ _ _ _ (@dG _ _ _ _ _ _ _ _ (bK (jJ (K:=K) rfl hr) (bH (eU.mono (by decide)) hr rfl (@cY _ _ _ _ _ _ _ (@cJ _ _ _ _ _ (@aC _ _ _ _ _ _ (gR (v := .ref C_hung) rfl GC_hung rfl) (@aC _ _ _ _ _ _ (pv 7) (@bO _ _ _ _ _ _ _ (fD (sG (K:=K) rfl) (pv 4) gT (gU (aN (aZ (K:=K) rfl) rfl B.len cI (@aC _ _ _ _ _ _ (pv 7) aD)))) aD)))) aD)) nT (bX _)) (@aA _ _ _ _ _ (@bP _ _ _ _ iM) aI) aI) aI) (by intro _;rfl)) aI)))))) (@aA _ _ _ _ _ (@bP _ _ _ _ iM) aI)))
end
theorem nW {p:Int->Bool}{a:Int}{L:List Int}(h:a∈L):L.countP p=(L.erase a).countP p+if p a=true then 1 else 0:=by
 have:=(zm h).countP_eq p
 rw [this,nj]
theorem aAc {A B:List Int}(h:A.Perm B):A.sum=B.sum:=by
 induction h with
 | nil=>rfl
 | cons a _ ih=>rw [jo,jo,ih]
 | swap a b l=>rw [jo,jo,jo,jo];omega
 | trans _ _ h1 h2=>rw [h1,h2]
theorem wF {a:Int}{L:List Int}(h:a∈L):L.sum=a+(L.erase a).sum:=by
 have:=aAc (zm h)
 rw [this,jo]
theorem aEC:∀ (L:List Int),L≠[]->∃ a∈L,∀ x∈L,x<=a
 | [a],_=>⟨a,by simp,fun x hx=>by rw [bq.mp hx];exact rj _⟩
 | a :: b :: L,_=>by
  obtain ⟨m,hm,h⟩:=aEC (b :: L) (by simp)
  by_cases c:a<=m
  ·exact ⟨m,av _ hm,fun x hx=>by rcases bj.mp hx with rfl | hx;exact c;exact h x hx⟩
  ·exact ⟨a,by simp,fun x hx=>by
    rcases bj.mp hx with rfl | hx
    ·exact rj _
    ·have:=h x hx;omega⟩
theorem aGj:∀ (n:Nat) (A B:List Int),A.length=n->B.length=n->(∀ t:Int,A.countP (fun x=>decide (t<x))<=B.countP (fun x=>decide (t<x)))->A.sum<=B.sum
 | 0,A,B,ha,hb,_=>by
  rw [t7 ha,t7 hb];exact rj _
 | n+1,A,B,ha,hb,h=>by
  obtain ⟨a,hma,ma⟩:=aEC A (by intro e;rw [e] at ha;cases ha)
  have h1:0<A.countP (fun x=>decide (a - 1<x)):=An.mpr ⟨a,hma,decide_eq_true (by omega)⟩
  obtain ⟨b,hmb,hb'⟩:=An.mp (cv h1 (h (a - 1)))
  have hab:a<=b:=by have:=of_decide_eq_true hb';omega
  have:=aGj n (A.erase a) (B.erase b) (by rw [qj hma];omega) (by rw [qj hmb];omega) fun t=>by
   by_cases c:t<a
   ·have e:=h t
    rw [nW hma,nW hmb,if_pos (decide_eq_true c),if_pos (decide_eq_true (show t<b by omega))] at e
    omega
   ·have:(A.erase a).countP (fun x=>decide (t<x))=0:=Ao.mpr fun x hx=>by
     have:=ma x (List.mem_of_mem_erase hx)
     simp
     omega
    omega
  rw [wF hma,wF hmb]
  omega
inductive Gr:List Nat->List (Nat × Nat)->Prop
 | one (r:Nat):Gr [r] []
 | more {vs:List Nat} {es:List (Nat × Nat)} {p c:Nat}:Gr vs es->p∈vs->c∉vs->Gr (vs++[c]) (es++[(p,c)])
def wts (C:Nat->Nat->Int) (es:List (Nat × Nat)):List Int:=es.map fun e=>C e.1 e.2
theorem Gr.len {vs:List Nat}{es:List (Nat × Nat)}(h:Gr vs es):vs.length=es.length+1:=by
 induction h with
 | one r=>rfl
 | more _ _ _ ih=>rw [au,au,ih];rfl
theorem Gr.nd {vs:List Nat}{es:List (Nat × Nat)}(h:Gr vs es):vs.Nodup:=by
 induction h with
 | one r=>simp
 | more _ _ hc ih=>
  rw [rn]
  exact ⟨ih,by simp,fun a ha b hb e=>hc (by rw [<- bq.mp hb,<- e];exact ha)⟩
theorem Gr.mem {vs:List Nat}{es:List (Nat × Nat)}(h:Gr vs es):∀ e∈es,e.1∈vs/\e.2∈vs/\e.1≠e.2:=by
 induction h with
 | one r=>intro e he;cases he
 | @more vs' es' p c g hp hc ih=>
  intro e he
  rcases de.mp he with he | he
  ·have:=ih e he
   exact ⟨d5 _ this.1,d5 _ this.2.1,this.2.2⟩
  ·rw [bq.mp he]
   exact ⟨d5 _ hp,dg _ (by simp),fun e=>hc (by have e':p=c:=e;rw [<- e'];exact hp)⟩
def aCi (C:Nat->Nat->Int) (vs:List Nat) (ws:List Int):Prop:=∀ k w,ws[k]?=some w->∀ x∈vs.take (k+1),∀ y∈vs.drop (k+1),w<=C x y
def cnt (t:Int) (ws:List Int) (j:Nat):Nat:=(ws.take j).countP fun x=>decide (t<x)
theorem aDT (t:Int)(ws:List Int)(j:Nat):cnt t ws (j+1)<=cnt t ws j+1:=by
 unfold cnt
 rw [fk,vy]
 have:(ws[j]?.toList).length<=1:=by cases ws[j]? <;> simp
 have:=et (List.countP_le_length (p:=fun x=>decide (t<x)) (l:=ws[j]?.toList)) this
 omega
theorem aAb (t:Int)(ws:List Int):∀ (j b:Nat),b<=cnt t ws j->∃ i,i<=j/\cnt t ws i=b
 | 0,b,h=>⟨0,ay _,by
  have:cnt t ws 0=0:=by unfold cnt;simp
  omega⟩
 | j+1,b,h=>by
  by_cases c:b<=cnt t ws j
  ·obtain ⟨i,h1,h2⟩:=aAb t ws j b c
   exact ⟨i,by omega,h2⟩
  ·have:=aDT t ws j
   exact ⟨j+1,ay _,by omega⟩
theorem aFo (t:Int)(ws:List Int)(b:Nat)(h:b<=ws.countP (fun x=>decide (t<x))):∃ j,j<=ws.length/\cnt t ws j=b:=aAb t ws ws.length b (by unfold cnt;rw [fz];exact h)
theorem aGo {t:Int}{ws:List Int}{i j:Nat}(hij:i<=j)(h:cnt t ws i≠cnt t ws j):∃ k w,i<=k/\k<j/\ws[k]?=some w/\t<w:=by
 apply dz
 intro no
 apply h
 unfold cnt
 have e:ws.take j=ws.take i++(ws.take j).drop i:=by
  have:=(yz i (ws.take j)).symm
  rwa [List.take_take,ka hij] at this
 rw [e,vy]
 have:((ws.take j).drop i).countP (fun x=>decide (t<x))=0:=Ao.mpr fun x hx=>by
  obtain ⟨k,hk,rfl⟩:=mr hx
  rw [il,e8] at hk
  simp only [List.getElem_drop,List.getElem_take]
  intro e1
  exact no ⟨i+k,ws[i+k]'(by omega),by omega,by omega,ah (by omega),of_decide_eq_true e1⟩
 omega
theorem aBq {C:Nat->Nat->Int}{m:Nat}{vs us:List Nat}{es fs:List (Nat × Nat)}(sym:∀ x y,x<m->y<m->C x y=C y x)(g:Gr vs es)(l:aCi C vs (wts C es))(pv:vs.Perm (ar m))(g':Gr us fs)(pu:us.Perm (ar m)):(wts C es).sum<=(wts C fs).sum:=by
 have lv:vs.length=m:=by rw [pv.length_eq,cm]
 have lu:us.length=m:=by rw [pu.length_eq,cm]
 have le:=g.len
 have lf:=g'.len
 refine aGj (m - 1) _ _ (by unfold wts;rw [af];omega) (by unfold wts;rw [af];omega) fun t=>?_
 let β:Nat->Nat:=fun v=>cnt t (wts C es) (vs.idxOf v)
 have apart:∀ x y,x<m->y<m->β x≠β y->t<C x y:=fun x y hx hy hne=>by
  have ix:vs.idxOf x<vs.length:=vb (pv.mem_iff.mpr (cp.mpr hx))
  have iy:vs.idxOf y<vs.length:=vb (pv.mem_iff.mpr (cp.mpr hy))
  have key:∀ x y,vs.idxOf x<vs.length->vs.idxOf y<vs.length->vs.idxOf x<=vs.idxOf y->β x≠β y->t<C x y:=fun x y ix iy hle hne=>by
   obtain ⟨k,w,h1,h2,h3,h4⟩:=aGo hle hne
   have:=l k w h3 x (by
    rw [List.mem_take_iff_getElem]
    exact ⟨vs.idxOf x,by omega,List.getElem_idxOf ix⟩) y (by
    rw [List.mem_drop_iff_getElem]
    exact ⟨vs.idxOf y - (k+1),by omega,by
     have:k+1+(vs.idxOf y - (k+1))=vs.idxOf y:=by omega
     simp only [this]
     exact List.getElem_idxOf iy⟩)
   omega
  rcases sv (vs.idxOf x) (vs.idxOf y) with h | h
  ·exact key x y ix iy h hne
  ·rw [sym x y hx hy]
   exact key y x iy ix h (jk hne)
 let met:List Nat->Nat:=fun ws=>((ar ((wts C es).countP (fun x=>decide (t<x))+1)).filter fun b=>ws.any fun v=>decide (β v=b)).length
 have grow:∀ {ws:List Nat} {hs:List (Nat × Nat)},Gr ws hs->(∀ v∈ws,v<m)->met ws<=1+(wts C hs).countP (fun x=>decide (t<x)):=by
  intro ws hs g
  induction g with
  | one r=>
   intro _
   have:met [r]<=1:=by
    show ((ar _).filter _).length<=1
    have nd:((ar ((wts C es).countP (fun x=>decide (t<x))+1)).filter fun b=>[r].any fun v=>decide (β v=b)).Nodup:=List.filter_sublist.nodup ju
    have sub:∀ b∈((ar ((wts C es).countP (fun x=>decide (t<x))+1)).filter fun b=>[r].any fun v=>decide (β v=b)),b=β r:=fun b hb=>by
     have:=(j7.mp hb).2
     simp at this
     exact this.symm
    generalize ((ar ((wts C es).countP (fun x=>decide (t<x))+1)).filter fun b=>[r].any fun v=>decide (β v=b))=Z at nd sub
    match Z,nd,sub with
    | [],_,_=>simp
    | [_],_,_=>simp
    | a :: b :: Z,nd,sub=>
     have h1:=sub a (by simp)
     have h2:=sub b (by simp)
     rw [h1,h2] at nd
     simp at nd
   omega
  | @more ws hs p c g hp hc ih=>
   intro hw
   have ih:=ih fun v hv=>hw v (d5 _ hv)
   have e1:(wts C (hs++[(p,c)])).countP (fun x=>decide (t<x))=(wts C hs).countP (fun x=>decide (t<x))+if t<C p c then 1 else 0:=by
    unfold wts
    rw [cq,vy,df,sk,nj,List.countP_nil]
    simp
   rw [e1]
   by_cases cb:∃ v∈ws,β v=β c
   ·have e2:met (ws++[c])=met ws:=by
     show ((ar _).filter _).length=((ar _).filter _).length
     congr 1
     refine List.filter_congr fun b _=>?_
     rw [List.any_append]
     cases h:ws.any fun v=>decide (β v=b) with
     | true=>rfl
     | false=>
      simp
      intro e
      obtain ⟨v,hv,ev⟩:=cb
      rw [w5] at h
      exact h v hv (decide_eq_true (by rw [ev];exact e))
    omega
   ·have hlt:t<C p c:=apart p c (hw p (d5 _ hp)) (hw c (dg _ (by simp))) fun e=>cb ⟨p,hp,e⟩
    rw [if_pos hlt]
    have e3:met (ws++[c])<=met ws+1:=by
     show ((ar _).filter _).length<=((ar _).filter _).length+1
     have nd:∀ Z:List Nat,Z.Nodup->(Z.filter fun b=>(ws++[c]).any fun v=>decide (β v=b)).length<=(Z.filter fun b=>ws.any fun v=>decide (β v=b)).length+if β c∈Z then 1 else 0:=by
      intro Z
      induction Z with
      | nil=>intro _;simp
      | cons z Z ihZ=>
       intro nz
       have nz':=gh.mp nz
       have ih':=ihZ nz'.2
       by_cases cz:β c=z
       ·have hnot:β c∉Z:=by rw [cz];exact nz'.1
        rw [if_neg hnot] at ih'
        rw [if_pos (by rw [cz];simp)]
        rw [t8,t8]
        split <;> split <;> first | omega | (simp only [cw];omega)
       ·have e4:((ws++[c]).any fun v=>decide (β v=z))=ws.any fun v=>decide (β v=z):=by
         rw [List.any_append]
         simp [cz]
        have e5:(β c∈z :: Z)↔β c∈Z:=by
         rw [bj]
         exact ⟨fun h=>h.resolve_left cz, .inr⟩
        rw [t8,t8,e4]
        simp only [e5]
        split <;> first | omega | (simp only [cw];omega)
     have h2:=nd (ar ((wts C es).countP (fun x=>decide (t<x))+1)) ju
     split at h2 <;> omega
    omega
 have all:met us=(wts C es).countP (fun x=>decide (t<x))+1:=by
  show ((ar _).filter _).length=_
  rw [Aq.mpr,cm]
  intro b hb
  have hb:=cp.mp hb
  obtain ⟨j,hj,ej⟩:=aFo t (wts C es) b (by omega)
  have hj':j<vs.length:=by
   unfold wts at hj
   rw [af] at hj
   omega
  rw [xy]
  refine ⟨vs[j],pu.mem_iff.mpr (pv.mem_iff.mp (fb hj')),decide_eq_true ?_⟩
  show cnt t (wts C es) (vs.idxOf vs[j])=b
  rw [g.nd.idxOf_getElem]
  exact ej
 have:=grow g' fun v hv=>cp.mp (pu.mem_iff.mp hv)
 omega
def cC (t:Nat->Nat->Int) (D:Int) (u:Nat->Int) (i j:Nat):Int:=t i j*D - u i - u j
def co (t:Nat->Nat->Int) (D:Int) (u:Nat->Int) (n:Nat) (es:List (Nat × Nat)) (a b:Nat):Int:=(wts (fun i j=>cC t D u (i+1) (j+1)) es).sum+cC t D u 0 a+cC t D u 0 b+2*((ar n).map u).sum
structure One (n:Nat)(vs:List Nat)(es:List (Nat × Nat))(a b:Nat):Prop where
 gr:Gr vs es
 pm:vs.Perm (ar (n - 1))
 a1:1<=a
 an:a<n
 b1:1<=b
 bn:b<n
 ne:a≠b
def IsW (t:Nat->Nat->Int) (D:Int) (u:Nat->Int) (n:Nat) (W:Int):Prop:=(∃ vs es a b,One n vs es a b/\W=co t D u n es a b)/\∀ vs es a b,One n vs es a b->W<=co t D u n es a b
theorem vM {C C':Nat->Nat->Int}{p q z:Int}:∀ {es:List (Nat × Nat)},(∀ e∈es,q*C' e.1 e.2=p*C e.1 e.2 - z)->q*(wts C' es).sum=p*(wts C es).sum - (es.length:Int)*z
 | [],_=>by simp [wts]
 | e :: es,h=>by
  have ih:=vM (es:=es) fun x hx=>h x (av _ hx)
  have h0:=h e (by simp)
  show q*(C' e.1 e.2+(wts C' es).sum)=p*(C e.1 e.2+(wts C es).sum) - ((es.length+1:Nat):Int)*z
  rw [my,my,ih,h0,Int.natCast_add,Ar]
  simp
  omega
theorem vV {u u':Nat->Int}{p q z:Int}:∀ {L:List Nat},(∀ i∈L,q*u' i=p*u i+z)->q*(L.map u').sum=p*(L.map u).sum+(L.length:Int)*z
 | [],_=>by simp
 | i :: L,h=>by
  have ih:=vV (L:=L) fun x hx=>h x (av _ hx)
  have h0:=h i (by simp)
  show q*(u' i+(L.map u').sum)=p*(u i+(L.map u).sum)+((L.length+1:Nat):Int)*z
  rw [my,my,ih,h0,Int.natCast_add,Ar]
  simp
  omega
theorem zN {t:Nat->Nat->Int}{D D':Int}{u u':Nat->Int}{n:Nat}{g z:Int}{vs:List Nat}{es:List (Nat × Nat)}{a b:Nat}(h3:3<=n)(o:One n vs es a b)(h:∀ i,i<n->g*D*u' i=g*D'*u i+z):g*D*co t D' u' n es a b=g*D'*co t D u n es a b:=by
 have cc:∀ i j,i<n->j<n->g*D*cC t D' u' i j=g*D'*cC t D u i j - 2*z:=fun i j hi hj=>by
  unfold cC
  rw [As,As,As,As,h i hi,h j hj]
  have:g*D*(t i j*D')=g*D'*(t i j*D):=by
   rw [fq,fq,h7 D (t i j) D',h7 D' (t i j) D,jj D D']
  omega
 have le:es.length+2=n:=by
  have:=o.gr.len
  rw [o.pm.length_eq,cm] at this
  omega
 have lt:∀ e∈es,e.1+1<n/\e.2+1<n:=fun e he=>by
  have:=o.gr.mem e he
  have h1:=cp.mp (o.pm.mem_iff.mp this.1)
  have h2:=cp.mp (o.pm.mem_iff.mp this.2.1)
  omega
 have e1:=vM (C:=fun i j=>cC t D u (i+1) (j+1)) (C':=fun i j=>cC t D' u' (i+1) (j+1)) (p:=g*D') (q:=g*D) (z:=2*z) (es:=es) fun e he=>cc _ _ (lt e he).1 (lt e he).2
 have e2:=vV (u:=u) (u':=u') (p:=g*D') (q:=g*D) (z:=z) (L:=ar n) fun i hi=>h i (cp.mp hi)
 rw [cm] at e2
 have e3:=cc 0 a (by omega) o.an
 have e4:=cc 0 b (by omega) o.bn
 unfold co
 rw [my,my,my,my,my,my,e1,e3,e4]
 have e5:g*D*(2*((ar n).map u').sum)=2*(g*D'*((ar n).map u).sum+(n:Int)*z):=by
  rw [<- e2,h7]
 have e6:g*D'*(2*((ar n).map u).sum)=2*(g*D'*((ar n).map u).sum):=h7 ..
 rw [e5,e6]
 have e7:(es.length:Int)*(2*z)=2*((n:Int)*z) - 4*z:=by
  rw [show (es.length:Int)=(n:Int) - 2 by omega,Bk,h7]
  omega
 omega
theorem aFG {t:Nat->Nat->Int}{D D':Int}{u u':Nat->Int}{n:Nat}{g z W W':Int}(h3:3<=n)(hg:0<g)(hD:0<D)(hD':0<D')(h:∀ i,i<n->g*D*u' i=g*D'*u i+z)(hW:IsW t D u n W)(hW':IsW t D' u' n W'):W'*D=W*D':=by
 obtain ⟨vs,es,a,b,o,e⟩:=hW.1
 obtain ⟨vs',es',a',b',o',e'⟩:=hW'.1
 have p1:0<g*D:=rq hg hD
 have p2:0<g*D':=rq hg hD'
 have i1:g*D*W'<=g*D'*W:=by
  rw [e,<- zN h3 o h]
  exact t9 (hW'.2 _ _ _ _ o) (by omega)
 have i2:g*D'*W<=g*D*W':=by
  rw [e',zN h3 o' h]
  exact t9 (hW.2 _ _ _ _ o') (by omega)
 have i3:g*(W'*D)=g*(W*D'):=by
  rw [jj W' D,jj W D',<- fq,<- fq]
  omega
 exact wc (by omega) i3
def gd (i j:Int):Int:=((i.gcd j:Nat):Int)
theorem qQ {i j:Int}(h:0<j):0<gd i j:=by
 unfold gd
 have:0<i.gcd j:=Int.gcd_pos_of_ne_zero_right i (by omega)
 omega
theorem kK {i j:Int}(h:0<j):i=gd i j*(i / gd i j)/\j=gd i j*(j / gd i j)/\0<j / gd i j/\(i / gd i j).gcd (j / gd i j)=1:=by
 have g0:=qQ (i:=i) h
 have d1:gd i j ∣ i:=Int.gcd_dvd_left i j
 have d2:gd i j ∣ j:=w6 i j
 have e2:j=gd i j*(j / gd i j):=(zo d2).symm
 refine ⟨(zo d1).symm,e2,?_,?_⟩
 ·apply dz
  intro hn
  have:=Int.mul_nonpos_of_nonneg_of_nonpos (show 0<=gd i j by omega) (show j / gd i j<=0 by omega)
  omega
 ·exact Int.gcd_ediv_gcd_ediv_gcd (by unfold gd at g0;omega)
theorem aBs {a b d:Int}(h:b ∣ a*d)(g:a.gcd b=1):b ∣ d:=by
 have h1:b.natAbs ∣ a.natAbs*d.natAbs:=by rw [<- z9];exact y9.mpr h
 have h2:Nat.Coprime b.natAbs a.natAbs:=by unfold Nat.Coprime;rw [vz];exact g
 exact y9.mp (Nat.Coprime.dvd_of_dvd_mul_left h2 h1)
theorem aEF {a b c d:Int}(hb:0<b)(hd:0<d)(h:a*d=c*b):a / gd a b=c / gd c d/\b / gd a b=d / gd c d:=by
 obtain ⟨e1,e2,p1,q1⟩:=kK (i:=a) hb
 obtain ⟨e3,e4,p2,q2⟩:=kK (i:=c) hd
 have g1:=qQ (i:=a) hb
 have g2:=qQ (i:=c) hd
 generalize gd a b=g at *
 generalize gd c d=k at *
 generalize a / g=a' at *
 generalize b / g=b' at *
 generalize c / k=c' at *
 generalize d / k=d' at *
 have h1:a'*d'=c'*b':=by
  have:(g*k)*(a'*d')=(g*k)*(c'*b'):=by
   have l:(g*k)*(a'*d')=a*d:=by rw [e1,e4];simp only [fq,h7,jj]
   have r:(g*k)*(c'*b')=c*b:=by rw [e3,e2];simp only [fq,h7,jj]
   rw [l,r,h]
  exact wc (by have:=rq g1 g2;omega) this
 have v1:b' ∣ d':=by
  have:b' ∣ a'*d':=⟨c',by rw [h1,jj]⟩
  exact aBs this q1
 have v2:d' ∣ b':=by
  have:d' ∣ c'*b':=⟨a',by rw [<- h1,jj]⟩
  exact aBs this q2
 have e:b'=d':=Int.le_antisymm (xp p2 v1) (xp p1 v2)
 subst e
 exact ⟨Int.eq_of_mul_eq_mul_right (by omega) h1,rfl⟩
theorem aCI {x y:Int}{a b:Nat}(hx:x.natAbs<2 ^ a)(hy:y.natAbs<2 ^ b):(x*y).natAbs<2 ^ (a+b):=by
 rw [z9,Nat.pow_add]
 exact Nat.mul_lt_mul'' hx hy
theorem aGG {i j:Int}{a:Nat}(h:0<j)(hi:i.natAbs<2 ^ a):(i / gd i j).natAbs<2 ^ a:=by
 obtain ⟨e1,_⟩:=kK (i:=i) h
 have g0:=qQ (i:=i) h
 have:i.natAbs=(gd i j).natAbs*(i / gd i j).natAbs:=by rw [<- z9,<- e1]
 have:(i / gd i j).natAbs<=i.natAbs:=by
  rw [this]
  exact Nat.le_mul_of_pos_left _ (by omega)
 omega
theorem lM {x:Int}{a b:Nat}(hx:x.natAbs<2 ^ a)(h:a<=b):x.natAbs<2 ^ b:=cv hx (jy (by decide) h)
section
variable {K:ae}
def aHj:Sp:=fun vs H Q _=>∃ i j:Int,vs=[.int i, .int j]/\Q (.int (gd i j)) H
theorem aIP (i:Int):(if i<0 then -i else i)=((i.natAbs:Nat):Int):=by split <;> omega
theorem aJt {a b:Nat}:((a:Int) % (b:Int))=((a % b:Nat):Int):=(Int.natCast_emod a b).symm
theorem aIp:∀ vs H Q E,aHj vs H Q E->iY K { nx:=fun _ H'=>Q .non H',rt:=Q } (bW ["one","other","left"] vs) H:=by
 intro vs H Q E h
 obtain ⟨i,j,rfl,q⟩:=h
 refine ⟨_,rfl,i,rfl,?_⟩
 refine ⟨_,rfl,j,rfl,?_⟩
 refine ⟨fun m σ' H'=>H'=H/\∃ (a b:Nat) (x2:Option V),σ'=[some (.int (a:Int)),some (.int (b:Int)),x2]/\b=m/\Nat.gcd a b=i.gcd j,⟨j.natAbs,rfl,i.natAbs,j.natAbs,none,by rw [aIP,aIP];rfl,rfl,rfl⟩,?_⟩
 rintro m σ' H' ⟨rfl,a,b,x2,rfl,rfl,hg⟩
 refine ⟨_,rfl,_,_,rfl,rfl,_,rfl,?_⟩
 by_cases c:0<b
 ·refine iI (decide_eq_true (by omega)) ⟨fun σ2 H2=>H2=H'/\∃ (a' b':Nat) (x2:Option V),σ2=[some (.int (a':Int)),some (.int (b':Int)),x2]/\b'<b/\Nat.gcd a' b'=i.gcd j,fun σ2 H2 ⟨e,a',b',x2,e1,e2,e3⟩=>⟨b',e2,e,a',b',x2,e1,rfl,e3⟩,?_⟩
  refine ⟨_,rfl,_,rfl,_,_,rfl,rfl,by show (0:Int)<(b:Int);omega,_,rfl,_,rfl,rfl,b,a % b,some (.int ((a % b:Nat):Int)),?_,AN _ c,?_⟩
  ·show [some (V.int (b:Int)),some (V.int ((a:Int) % (b:Int))),some (V.int ((a:Int) % (b:Int)))]=_
   rw [aJt]
  ·rw [vz,<- Nat.gcd_rec,vz];exact hg
 ·refine cL (decide_eq_false (by omega)) ⟨_,rfl,?_⟩
  have:b=0:=by omega
  subst this
  rw [Nat.gcd_zero_right] at hg
  rw [hg]
  exact q
def jP (K:ae):Sp:=fun vs H Q _=>∃ i j:Int,vs=[.int i, .int j]/\0<j/\j.natAbs<2 ^ 8000/\∀ p H',Same H H'->H' p=some (.tup [.int (i / gd i j), .int (j / gd i j)])->Q (.ref p) H'
theorem yT {i j:Int}(h:0<j)(hj:j.natAbs<2 ^ 8000):aHm i (gd i j):=by
 refine ⟨qQ h,bc ?_ hj⟩
 have:=xp h (show gd i j ∣ j from w6 i j)
 have:=qQ (i:=i) h
 omega
theorem aGT:∀ vs H Q E,jP K vs H Q E->zL K aHj { nx:=fun _ H'=>Q .non H',rt:=Q } (bW ["top","bottom","measure"] vs) H:=by
 intro vs H Q E h
 obtain ⟨i,j,rfl,hj,hb,q⟩:=h
 refine ⟨_,rfl,_,rfl,i,j,rfl,?_⟩
 refine ⟨_,rfl,_,_,rfl,rfl,_,rfl,cL (decide_eq_false (by omega)) ?_⟩
 refine ⟨_,rfl,_,rfl,_,_,rfl,rfl,yT hj hb,_,rfl,_,rfl,_,_,rfl,rfl,yT hj hb,show 2<=ba by decide,fun p hp=>?_⟩
 exact q p _ (aJ hp _) aF
theorem aFX:∀ vs H Q E,jP K vs H Q E->pT K { nx:=fun _ H'=>Q .non H',rt:=Q } (bW ["top","bottom","one","other"] vs) H:=by
 intro vs H Q E h
 obtain ⟨i,j,rfl,hj,hb,q⟩:=h
 refine ⟨_,rfl,i,rfl,_,rfl,_,_,rfl,?_⟩
 refine ⟨fun m σ' H'=>H'=H/\∃ (a b:Nat),σ'=[some (.int i),some (.int j),some (.int (a:Int)),some (.int (b:Int))]/\b=m/\Nat.gcd a b=i.gcd j,⟨j.natAbs,rfl,i.natAbs,j.natAbs,by rw [aIP];show [_,_,_,some (V.int j)]=_;rw [show ((j.natAbs:Nat):Int)=j by omega],rfl,rfl⟩,?_⟩
 rintro m σ' H' ⟨rfl,a,b,rfl,rfl,hg⟩
 refine ⟨_,rfl,_,_,rfl,rfl,_,rfl,?_⟩
 by_cases c:0<b
 ·refine iI (decide_eq_true (by omega)) ⟨fun σ2 H2=>H2=H'/\∃ (a' b':Nat),σ2=[some (.int i),some (.int j),some (.int (a':Int)),some (.int (b':Int))]/\b'<b/\Nat.gcd a' b'=i.gcd j,fun σ2 H2 ⟨e,a',b',e1,e2,e3⟩=>⟨b',e2,e,a',b',e1,rfl,e3⟩,?_⟩
  refine ⟨_,rfl,_,rfl,_,rfl,_,_,rfl,rfl,by show (0:Int)<(b:Int);omega,_,_,rfl,rfl,b,a % b,?_,AN _ c,?_⟩
  ·show [some (V.int i),some (V.int j),some (V.int (b:Int)),some (V.int ((a:Int) % (b:Int)))]=_
   rw [aJt]
  ·rw [vz,<- Nat.gcd_rec,vz];exact hg
 ·refine cL (decide_eq_false (by omega)) ?_
  have:b=0:=by omega
  subst this
  rw [Nat.gcd_zero_right] at hg
  have eg:(a:Int)=gd i j:=by unfold gd;rw [hg]
  rw [eg]
  refine ⟨_,rfl,_,rfl,_,_,rfl,rfl,yT hj hb,_,rfl,_,rfl,_,_,rfl,rfl,yT hj hb,show 2<=ba by decide,fun p hp=>?_⟩
  exact q p _ (aJ hp _) aF
abbrev Pr:=List (Int × Int)
def prI (P:Pr):List (List Int):=P.map fun e=>[e.1,e.2]
def OkP (P:Pr):Prop:=∀ e∈P,0<e.2/\e.2<2 ^ 62/\e.1.natAbs<2 ^ 300
theorem nZ {H:Hp}{xs:List V}{P:Pr}(h:Rows K H xs (prI P)){i:Nat}{x:V}(hx:xs[i]?=some x):∃ e b,P[i]?=some e/\x = .ref b/\SqT K H b [.int e.1, .int e.2]:=by
 have hi:i<xs.length:=(ai.mp hx).1
 have hl:i<P.length:=by rw [h.1] at hi;unfold prI at hi;rwa [af] at hi
 obtain ⟨b,e1,e2⟩:=h.2 i [P[i].1,P[i].2] (by unfold prI;rw [az,ah hl];rfl)
 rw [hx] at e1
 exact ⟨P[i],b,ah hl,cu e1,e2⟩
def aId (K:ae):Sp:=fun vs H Q _=>∃ (a:Addr) (xs:List V) (P:Pr),vs=[.ref a]/\SqT K H a xs/\Rows K H xs (prI P)/\OkP P/\P.length<=8/\∀ D:Int,0<D->D.natAbs<2 ^ 600->(∀ e∈P,e.2 ∣ D)->(P.all (fun e=>e.2 == 1)=true->D=1)->Q (.int D) H
theorem aIR:∀ vs H Q E,aId K vs H Q E->jY K aHj { nx:=fun _ H'=>Q .non H',rt:=Q } (bW ["some","common","top","bottom"] vs) H:=by
 intro vs H Q E h
 obtain ⟨a,xs,P,rfl,ha,hr,okp,h8,q⟩:=h
 have hl:xs.length=P.length:=by rw [hr.1];unfold prI;rw [af]
 refine ⟨_,rfl,a,rfl, .inr ⟨⟨_,ha⟩,qS (K:=K) (a:=a) (xs:=xs) (fun i σ' H'=>H'=H/\i<=xs.length/\∃ (c:Int) (x2 x3:Option V),σ'=[some (.ref a),some (.int c),x2,x3]/\0<c/\c.natAbs<2 ^ (62*i+1)/\(∀ e∈P.take i,e.2 ∣ c)/\(P.all (fun e=>e.2 == 1)=true->c=1)) ⟨rfl,bh _,1,none,none,rfl,by decide,by decide,by simp,fun _=>rfl⟩ (fun i σ1 H1 _ ⟨e,_⟩=>by rw [e];exact ha) (fun i x σ1 H1 hx ⟨e,_,c,x2,x3,es,c0,cb,cd,c1⟩=>?_) fun σ1 H1 ⟨e,_,c,x2,x3,es,c0,cb,cd,c1⟩=>?_⟩⟩
 ·subst e es
  have hi:i<xs.length:=(ai.mp hx).1
  obtain ⟨e,b,he,rfl,hb⟩:=nZ hr hx
  obtain ⟨b0,b1,_⟩:=okp e (aw he)
  refine ⟨b,_,rfl,hb,rfl, .int e.1,[.int e.2],rfl, .int e.2,[],rfl,rfl,?_⟩
  have g0:=qQ (i:=c) b0
  have dv:gd c e.2 ∣ e.2:=w6 c e.2
  have gle:=xp b0 dv
  obtain ⟨r1,r2,r3,_⟩:=kK (i:=c) b0
  have ble:e.2 / gd c e.2<=e.2:=nk _ (by omega)
  refine ⟨_,rfl,_,rfl,_,rfl,_,rfl,c,e.2,rfl,_,_,rfl,rfl,⟨g0,cv (show (gd c e.2).natAbs<2 ^ 62 by omega) (jy (by decide) (by decide))⟩, .inl (.inr ⟨by omega,by omega⟩),rfl,hi,c*(e.2 / gd c e.2),_,_,rfl,rq c0 r3,?_,fun x hx'=>?_,fun h1=>?_⟩
  ·have:=aCI cb (show (e.2 / gd c e.2).natAbs<2 ^ 62 by omega)
   rw [show 62*(i+1)+1=62*i+1+62 by omega]
   exact this
  ·rw [fk,he] at hx'
   rcases de.mp hx' with h | h
   ·exact Int.dvd_trans (cd x h) (Int.dvd_mul_right ..)
   ·obtain rfl:x=e:=by simpa using h
    refine ⟨c / gd c x.2,?_⟩
    have:c*(x.2 / gd c x.2)=(gd c x.2*(c / gd c x.2))*(x.2 / gd c x.2):=by rw [<- r1]
    rw [this,fq,h7,<- fq,jj (c / gd c x.2),fq,jj (c / gd c x.2),<- fq,<- r2]
  ·have e1:e.2=1:=by
    have:=fg.mp h1 e (aw he)
    simpa using this
   have:=c1 h1
   rw [this,e1]
   decide
 ·subst e es
  rw [hl] at cb cd
  rw [fz] at cd
  refine ⟨_,rfl,q c c0 (lM cb (by omega)) cd c1⟩
def gD (D:Int) (P:Pr):List Int:=P.map fun e=>e.1*(D / e.2)
def aIc (K:ae):Sp:=fun vs H Q _=>∃ (a:Addr) (xs:List V) (P:Pr) (D:Int),vs=[.ref a, .int D]/\SqT K H a xs/\Rows K H xs (prI P)/\OkP P/\P.length<=8/\0<D/\D.natAbs<2 ^ 600/\∀ l H',Same H H'->H' l=some (.lst ((gD D P).map V.int))->Q (.ref l) H'
theorem aIo:∀ vs H Q E,aIc K vs H Q E->pZ K { nx:=fun _ H'=>Q .non H',rt:=Q } (bW ["some","bottom"] vs) H:=by
 intro vs H Q E h
 obtain ⟨a,xs,P,D,rfl,ha,hr,okp,h8,D0,Db,q⟩:=h
 have hl:xs.length=P.length:=by rw [hr.1];unfold prI;rw [af]
 refine ⟨_,rfl,a,rfl, .inr ⟨⟨_,ha⟩,fun A hA=>?_⟩⟩
 refine qS (K:=K) (a:=a) (xs:=xs) (fun i σ' H'=>i<=xs.length/\Same H H'/\(∃ x0 x1,σ'=[x0,x1,some (.int D)])/\H' A=some (.lst ((gD D (P.take i)).map V.int))) ⟨bh _,aJ hA _,⟨_,_,rfl⟩,aF⟩ (fun i σ1 H1 _ ⟨_,s1,_⟩=>s1.tup ha) (fun i x σ1 H1 hx ⟨_,s1,⟨x0,x1,es⟩,hA1⟩=>?_) fun σ1 H1 ⟨_,s1,_,hA1⟩=>?_
 ·subst es
  have hi:i<xs.length:=(ai.mp hx).1
  obtain ⟨e,b,he,rfl,hb⟩:=nZ (hr.same s1) hx
  obtain ⟨b0,b1,t1⟩:=okp e (aw he)
  refine ⟨b,_,rfl,hb,rfl, .int e.1,[.int e.2],rfl, .int e.2,[],rfl,rfl,?_⟩
  have dle:(D / e.2).natAbs<2 ^ 600:=by
   have:D / e.2<=D:=nk _ (by omega)
   have:0<=D / e.2:=Int.ediv_nonneg (by omega) (by omega)
   omega
  refine ⟨_,rfl,_,rfl,_,rfl,_,_,rfl,rfl,⟨b0,cv (show e.2.natAbs<2 ^ 62 by omega) (jy (by decide) (by decide))⟩, .inr ⟨lM t1 (by decide),lM dle (by decide)⟩,_,hA1,?_,hi,eZ hA s1,⟨_,_,rfl⟩,?_⟩
  ·rw [af]
   unfold gD
   rw [af,e8]
   exact bc (show _<=8 by omega) (by decide)
  ·rw [aF,fk,he]
   unfold gD
   rw [cq,cq]
   rfl
 ·rw [hl,fz] at hA1
  exact q A H1 s1 hA1
end
theorem zE {a m j:Int}(h0:0<m)(h1:m<=4611686018427387904):CMul (a % m) j := .inl ⟨by have:=yp a (show m≠0 by omega);omega,by have:=Int.emod_lt_of_pos a h0;omega⟩
def aJp (l:Addr) (k:Nat) (z:Int):HO := .lst [.ref l, .int (k:Int), .int z]
def PenAt (H:Hp) (p l:Addr) (ns:List Int) (k:Nat) (z:Int):Prop:=H p=some (aJp l k z)/\H l=some (.lst (ns.map V.int))/\l≠p
def Pen (H:Hp) (p l:Addr) (ns:List Int):Prop:=∃ k z,PenAt H p l ns k z
theorem PenAt.put {H:Hp}{p l:Addr}{ns:List Int}{k k':Nat}{z z':Int}(h:PenAt H p l ns k z):PenAt (upd H p (aJp l k' z')) p l ns k' z':=⟨aF,by rw [aX h.2.2];exact h.2.1,h.2.2⟩
theorem PenAt.x {H H':Hp}{p l:Addr}{ns:List Int}{k:Nat}{z:Int}(h:PenAt H p l ns k z)(s:Same H H'):PenAt H' p l ns k z:=⟨s _ _ h.1,s _ _ h.2.1,h.2.2⟩
theorem Pen.x {H H':Hp}{p l:Addr}{ns:List Int}(h:Pen H p l ns)(s:Same H H'):Pen H' p l ns:=by
 obtain ⟨k,z,h⟩:=h
 exact ⟨k,z,h.x s⟩
theorem Pen.ne {H:Hp}{p l:Addr}{ns:List Int}(h:Pen H p l ns){x:Addr}(hx:H x=none):x≠p/\x≠l:=by
 obtain ⟨k,z,h⟩:=h
 exact ⟨fun e=>(by rw [e,h.1] at hx;cases hx),fun e=>(by rw [e,h.2.1] at hx;cases hx)⟩
theorem Pen.upd {H:Hp}{p l:Addr}{ns:List Int}(h:Pen H p l ns){x:Addr}{o:HO}(h1:x≠p)(h2:x≠l):Pen (upd H x o) p l ns:=by
 obtain ⟨k,z,h⟩:=h
 exact ⟨k,z,by rw [aX (jk h1)];exact h.1,by rw [aX (jk h2)];exact h.2.1,h.2.2⟩
theorem aAU {n a b:Nat}:at2 (dj n (dj n 0)) a b=0:=by
 unfold at2
 have:(dj n (dj n (0:Int))).getD a []=[]\/(dj n (dj n (0:Int))).getD a []=dj n 0:=by
  rw [aj,mn]
  split
  ·exact .inr rfl
  ·exact .inl rfl
 rcases this with e | e
 ·rw [e];rfl
 ·rw [e,aj,mn]
  split <;> rfl
section
variable {K:ae}
theorem wX {H H':Hp}{a p:Addr}{xs ys:List V}(h:SqT K H a xs)(hp:H p=some (.lst ys))(sx:SameX p H H'):SqT K H' a xs:=by
 rcases h with (h | ⟨ob,h⟩) | h
 ·exact .inl (.inl (sx _ _ (ne_of h hp (fun z=>nomatch z)) h))
 ·exact .inl (.inr ⟨ob,sx _ _ (ne_of h hp (fun z=>nomatch z)) h⟩)
 ·exact .inr h
def aAM:Sp:=fun vs H Q _=>∃ (c:Int) (k:Nat),vs=[.int c, .int (k:Int)]/\∀ v:Int,Q (.int v) H
theorem aHu:∀ vs H Q E,aAM vs H Q E->lR K { nx:=fun _ H'=>Q .non H',rt:=Q } (bW ["cell","at","one","two","three"] vs) H:=by
 intro vs H Q E h
 obtain ⟨c,k,rfl,q⟩:=h
 refine ⟨_,rfl,_,_,rfl,rfl,by show (0:Int)<1000000007;decide, .inl (.inr ⟨by decide,by decide⟩),_,rfl, .inl (.inr ⟨by decide,by decide⟩),_,_,rfl,rfl,by show (0:Int)<2147483629;decide,?_⟩
 refine ⟨_,rfl,_,rfl, .inl (zE (by decide) (by decide)),_,rfl, .inl (.inr ⟨by decide,by decide⟩),_,rfl,_,_,rfl,rfl,by show (0:Int)<65537;decide,_,_,rfl,rfl,by show (0:Int)<2147483587;decide,?_⟩
 refine ⟨_,rfl,_,rfl, .inl (zE (by decide) (by decide)),_,rfl, .inl (.inr ⟨by decide,by decide⟩),_,_,rfl,rfl,by show (0:Int)<2147483563;decide,?_⟩
 exact ⟨_,rfl, .inl (.inr ⟨by decide,by decide⟩),_,rfl, .inl (.inr ⟨by decide,by decide⟩),_,rfl,q _⟩
def yR (K:ae):Sp:=fun vs H Q _=>∃ (a:Addr) (ns:List Int),vs=[.ref a]/\SqL K H a (ns.map V.int)/\∀ p l ms H',Same H H'->Pen H' p l ms->Q (.ref p) H'
theorem aFl:∀ vs H Q E,yR K vs H Q E->nY K { nx:=fun _ H'=>Q .non H',rt:=Q } (bW ["script"] vs) H:=by
 intro vs H Q E h
 obtain ⟨a,ns,rfl,hS,q⟩:=h
 refine ⟨_,rfl,_,rfl, .inl ⟨a,_,rfl,hS,fun sc hsc=>?_⟩⟩
 obtain ⟨ms,ems,_⟩:=aDU ns none (some 40)
 rw [ems]
 refine .inl ⟨sc,_,rfl, .inl (.of aF),fun l hl=>⟨show 3<=ba by decide,fun p hp=>?_⟩⟩
 have hlp:l≠p:=fun e=>by rw [<- e,aF] at hp;cases hp
 refine q p l ms _ (((aJ hsc _).trans (aJ hl _)).trans (aJ hp _)) ⟨0,0,aF,?_,hlp⟩
 rw [aX hlp]
 exact aF
def eK:Sp:=fun vs H Q _=>∃ (p l:Addr) (ns:List Int) (m:Nat),vs=[.ref p, .int (m:Int)]/\Pen H p l ns/\1<=m/\m<2 ^ 100/\∀ (r:Nat) H',r<m->Pen H' p l ns->SameX p H H'->Q (.int (r:Int)) H'
theorem aFK:∀ vs H Q E,eK vs H Q E->oD K aAM { nx:=fun _ H'=>Q .non H',rt:=Q } (bW ["feed","many","at","cell","found"] vs) H:=by
 intro vs H Q E h
 obtain ⟨p,l,ns,m,rfl,⟨k,z,hP⟩,h1,hm,q⟩:=h
 have rest:∀ (G:Hp) (k':Nat) (z':Int) (x2 x3:Option V),PenAt G p l ns k' z'->SameX p H G->aP (bU (tOp xD (tOp (bF K) (aE 0) (tC (.int 2))) (aE 1)) (aL 4)) (aP (bU (tOp pQ (tOp (bF K) (aE 0) (tC (.int 2))) (aE 1)) (oZ (aE 0) (tC (.int 2)) fV)) (aP (fB (aE 4)) aK)) { nx:=fun _ H'=>Q .non H',rt:=Q } [some (.ref p),some (.int (m:Int)),x2,x3,none] G:=fun G k' z' x2 x3 hG sx=>by
  obtain ⟨r,er,hr⟩:=aCO (c:=z') (n:=m) h1
  refine ⟨_,rfl,ixL (j:=2) (.of hG.1) rfl ⟨_,rfl,aAa h1 er ?_⟩⟩
  refine ⟨_,rfl,ixL (j:=2) (.of hG.1) rfl ⟨_,rfl,_,_,rfl,rfl,⟨by omega,lM (a:=100) (by omega) (by decide)⟩,_,rfl,p,_,2,2,rfl,rfl,hG.1,rfl,?_⟩⟩
  exact ⟨_,rfl,q r _ hr ⟨k',z' / (m:Int),hG.put⟩ (sx.trans (SameX.put _))⟩
 refine ⟨_,rfl,ixL (j:=2) (.of hP.1) rfl ⟨_,rfl,_,_,rfl,rfl,_,rfl,?_⟩⟩
 by_cases c1:z<(m:Int)
 ·refine iI (decide_eq_true c1) ⟨_,rfl,ixL (j:=0) (.of hP.1) rfl ⟨l,_,rfl, .inl (.of hP.2.1),_,_,rfl,rfl,_,rfl,?_⟩⟩
  rw [af]
  by_cases c2:0<ns.length
  ·refine iI (decide_eq_true (by omega)) ?_
   obtain ⟨j,ej,hj⟩:=aCO (c:=(k:Int)) (n:=ns.length) c2
   refine ⟨_,rfl,ixL (j:=1) (.of hP.1) rfl ?_⟩
   refine ⟨_,rfl,ixL (j:=0) (.of hP.1) rfl ⟨_,rfl,_,rfl,ixL (j:=0) (.of hP.1) rfl ⟨l,_,rfl, .inl (.of hP.2.1),?_⟩⟩⟩
   rw [af]
   refine aAa c2 ej ?_
   refine ixL (j:=j) (v := .int (ns.getD j 0)) (.of hP.2.1) (by rw [az,L2.lA hj];rfl) ?_
   generalize ns.getD j 0=c
   refine ⟨_,rfl,_,rfl,p,_,1,1,rfl,rfl,hP.1,rfl,?_⟩
   have hP1:PenAt (upd H p (.lst ([.ref l, .int (k:Int), .int z].set 1 (.int ((k:Int)+1))))) p l ns (k+1) z:=hP.put
   have sx1:SameX p H (upd H p (.lst ([.ref l, .int (k:Int), .int z].set 1 (.int ((k:Int)+1))))):=SameX.put _
   generalize upd H p (.lst ([.ref l, .int (k:Int), .int z].set 1 (.int ((k:Int)+1))))=G1 at *
   refine ⟨_,rfl,_,rfl,p,_,2,2,rfl,rfl,hP1.1,rfl,?_⟩
   have hP2:PenAt (upd G1 p (.lst ([.ref l, .int ((k+1:Nat):Int), .int z].set 2 (.int c)))) p l ns (k+1) c:=hP1.put
   have sx2:=sx1.trans (SameX.put (H:=G1) (.lst ([.ref l, .int ((k+1:Nat):Int), .int z].set 2 (.int c))))
   generalize upd G1 p (.lst ([.ref l, .int ((k+1:Nat):Int), .int z].set 2 (.int c)))=G2 at *
   have mixed:aP (bU (bG aAM [] E0 (aB (aE 3) (aB (aE 2) aQ))) (oZ (aE 0) (tC (.int 2)) fV)) aK { nx:=fun σ' H'=>aP (bU (tOp xD (tOp (bF K) (aE 0) (tC (.int 2))) (aE 1)) (aL 4)) (aP (bU (tOp pQ (tOp (bF K) (aE 0) (tC (.int 2))) (aE 1)) (oZ (aE 0) (tC (.int 2)) fV)) (aP (fB (aE 4)) aK)) { nx:=fun _ H'=>Q .non H',rt:=Q } σ' H',rt:=Q } [some (.ref p),some (.int (m:Int)),some (.int (k:Int)),some (.int c),none] G2:=by
    refine ⟨_,rfl,_,rfl,c,k,rfl,fun v=>⟨_,rfl,p,_,2,2,rfl,rfl,hP2.1,rfl,?_⟩⟩
    exact rest _ (k+1) v _ _ hP2.put (sx2.trans (SameX.put _))
   refine ⟨_,rfl,10,18,rfl,rfl,⟨by decide,by decide,by decide⟩,_,_,rfl,rfl,_,rfl,?_⟩
   by_cases c3:c<10 ^ 18
   ·exact iI (decide_eq_true c3) (iI rfl mixed)
   ·refine cL (decide_eq_false c3) ⟨_,rfl,_,rfl,ixL (j:=0) (.of hP2.1) rfl ⟨l,_,rfl, .inl (.of hP2.2.1),_,_,rfl,rfl,_,rfl,?_⟩⟩
    exact aCP (fun _=>mixed) fun _=>rest _ (k+1) c _ _ hP2 sx2
  ·exact cL (decide_eq_false (by omega)) (rest H k z _ _ hP (SameX.refl _ _))
 ·exact cL (decide_eq_false c1) (rest H k z _ _ hP (SameX.refl _ _))
def Bs (M:List (List Int)) (n:Nat):Prop:=∀ i j,i<n->j<n->0<=at2 M i j/\at2 M i j<=1000000
def Sy (M:List (List Int)) (n:Nat):Prop:=∀ i j,i<n->j<n->at2 M i j=at2 M j i
theorem aEy {M:List (List Int)}{n i j:Nat}{v:Int}(b:Bs M n)(s:Sy M n)(q:Quad M n)(hi:i<n)(hj:j<n)(h0:0<=v)(h1:v<=1000000):Bs (uW (uW M i j v) j i v) n/\Sy (uW (uW M i j v) j i v) n:=by
 have q1:=jT (j:=j) (v:=v) q hi
 have e:∀ a c,at2 (uW (uW M i j v) j i v) a c=if (a=j/\c=i)\/(a=i/\c=j) then v else at2 M a c:=fun a c=>by
  rw [mX q1 hj hi,mX q hi hj]
  by_cases h1:a=j/\c=i
  ·rw [if_pos h1,if_pos (.inl h1)]
  ·rw [if_neg h1]
   by_cases h2:a=i/\c=j
   ·rw [if_pos h2,if_pos (.inr h2)]
   ·rw [if_neg h2,if_neg (fun z=>z.elim h1 h2)]
 refine ⟨fun a c ha hc=>?_,fun a c ha hc=>?_⟩
 ·rw [e]
  split
  ·exact ⟨h0,h1⟩
  ·exact b a c ha hc
 ·rw [e,e]
  by_cases c1:(a=j/\c=i)\/(a=i/\c=j)
  ·rw [if_pos c1,if_pos (by omega)]
  ·rw [if_neg c1,if_neg (by omega)]
   exact s a c ha hc
def prN (L:List (Nat × Nat)):List (List Int):=L.map fun e=>[(e.1:Int),(e.2:Int)]
theorem nN {H:Hp}{xs:List V}{L:List (Nat × Nat)}(h:Rows K H xs (prN L)){i:Nat}{x:V}(hx:xs[i]?=some x):∃ e b,L[i]?=some e/\x = .ref b/\SqT K H b [cF e.1,cF e.2]:=by
 have hi:i<xs.length:=(ai.mp hx).1
 have hl:i<L.length:=by rw [h.1] at hi;unfold prN at hi;rwa [af] at hi
 obtain ⟨b,e1,e2⟩:=h.2 i [(L[i].1:Int),(L[i].2:Int)] (by unfold prN;rw [az,ah hl];rfl)
 rw [hx] at e1
 exact ⟨L[i],b,ah hl,cu e1,e2⟩
theorem eO {L:List (Nat × Nat)}:(prN L).length=L.length:=by unfold prN;rw [af]
theorem yD {L M:List (Nat × Nat)}:prN (L++M)=prN L++prN M:=by unfold prN;rw [cq]
theorem oW {H:Hp}{xs ys:List V}{T U:List (List Int)}(h:Rows K H xs T)(g:Rows K H ys U):Rows K H (xs++ys) (T++U):=by
 refine ⟨by rw [au,au,h.1,g.1],fun i row e=>?_⟩
 by_cases hi:i<T.length
 ·rw [dk hi] at e
  obtain ⟨b,e1,e2⟩:=h.2 i row e
  exact ⟨b,by rw [dk (by rw [h.1];exact hi)];exact e1,e2⟩
 ·rw [dw (by omega)] at e
  obtain ⟨b,e1,e2⟩:=g.2 _ row e
  exact ⟨b,by rw [dw (by rw [h.1];omega),h.1];exact e1,e2⟩
def fQ (K:ae):Sp:=fun vs H Q _=>∃ n:Nat,vs=[.int (n:Int)]/\n<=8/\∀ F ys M H',Same H H'->H F=none->H' F=some (.lst ys)->Rows K H' ys (prN M)->(∀ e∈M,e.1<e.2/\e.2<n)->(∀ a b,a<b->b<n->(a,b)∈M)->M.length<=64->Q (.ref F) H'
theorem aEb:∀ vs H Q E,fQ K vs H Q E->lL K { nx:=fun _ H'=>Q .non H',rt:=Q } (bW ["many","found","i"] vs) H:=by
 intro vs H Q E h
 obtain ⟨n,rfl,h8,q⟩:=h
 refine ⟨show 0<=ba by decide,fun F hF=>?_⟩
 have mF:=aJ hF (.lst [])
 have hF1:(upd H F (.lst [])) F=some (.lst []):=aF
 generalize upd H F (.lst [])=G at *
 refine ⟨_,rfl,(n:Int),rfl,by omega,by omega,?_⟩
 rw [dy]
 refine cZ (lo:=0) (n:=n) (fun i σ' H'=>Same H H'/\∃ F x2 ys M,σ'=[some (.int (n:Int)),some (.ref F),x2]/\H F=none/\H' F=some (.lst ys)/\Rows K H' ys (prN M)/\(∀ e∈M,e.1<e.2/\e.2<n)/\(∀ a b,a<i->a<b->b<n->(a,b)∈M)/\M.length<=8*i) ⟨mF,F,none,[],[],rfl,hF,hF1,Rows.nil,(fun _ z=>nomatch z),(fun a _ h=>absurd h (mh a)),ay _⟩ (fun i σ' H1 hi ⟨m1,F1,x2,ys,M,es,hF0,hF2,r2,g2,c2,z2⟩=>?_) fun σ' H1 ⟨m1,F1,x2,ys,M,es,hF0,hF2,r2,g2,c2,z2⟩=>?_
 ·subst es
  rw [v5]
  refine ⟨_,rfl,_,rfl,_,rfl,_,_,rfl,⟨by omega,by omega,by omega,by omega⟩,fun A hA=>?_⟩
  rw [show ((n:Int) - ((i:Int)+1)).toNat=n - (i+1) by omega]
  have e1:prN ((ar (n - (i+1))).map fun k=>(i,i+1+k))=(ar (n - (i+1))).flatMap fun k=>[[(i:Int),((i+1+k:Nat):Int)]]:=by
   unfold prN
   rw [ft]
   have:∀ (L:List Nat) (f:Nat->List Int),(L.flatMap fun k=>[f k])=L.map f:=fun L f=>by
    induction L with
    | nil=>rfl
    | cons a L ih=>rw [i6,ih];rfl
   rw [this]
   rfl
  refine tR (K:=K) [0] (prN ((ar (n - (i+1))).map fun k=>(i,i+1+k))) hA (by rw [eO,af,cm];omega) (EmR.cast (yV (lo:=(i:Int)+1) (by decide) (by show 0<2;decide) fun k σ2 H2 hk l2 ag2 s0 sx2=>?_) e1.symm) fun σ2 H2 pre m2 hA2 r3=>?_
  ·have t1:σ2[1]?=some (some (.int (i:Int))):=(ag2 1 (by decide)).trans rfl
   have e3:(i:Int)+1+(k:Int)=((i+1+k:Nat):Int):=by omega
   rw [e3] at s0
   exact xU (by show 2<=100;decide) fun R hR=>⟨_,t1,_,s0,hR⟩
  ·have hF3:=m2 _ _ hF2
   refine .inl ⟨F1,A,ys,pre,rfl,rfl,hF3,hA2,?_,fun F4 hF4=>?_⟩
   ·rw [r3.1,r2.1,eO,eO,af,cm]
    exact et (show _<=100 by omega) (by decide)
   ·have m4:=aJ hF4 (.lst (ys++pre))
    refine ⟨(m1.trans m2).trans m4,F4,_,ys++pre,M++(ar (n - (i+1))).map fun k=>(i,i+1+k),rfl,(m1.trans m2).free hF4,aF,?_,fun e he=>?_,fun x y hx hxy hy=>?_,?_⟩
    ·rw [yD]
     exact (oW (r2.same m2) r3).same m4
    ·rcases de.mp he with he | he
     ·exact g2 e he
     ·obtain ⟨k,hk,rfl⟩:=cy.mp he
      have hk:=cp.mp hk
      exact ⟨by show i<i+1+k;omega,by show i+1+k<n;omega⟩
    ·by_cases ci:x<i
     ·exact d5 _ (c2 x y ci hxy hy)
     ·obtain rfl:x=i:=by omega
      exact dg _ (cy.mpr ⟨y - (x+1),cp.mpr (by omega),by show (x,x+1+(y - (x+1)))=(x,y);rw [show x+1+(y - (x+1))=y by omega]⟩)
    ·rw [au,af,cm];omega
 ·subst es
  exact ⟨_,rfl,q F1 ys M H1 m1 hF0 hF2 r2 g2 (fun a b h1 h2=>c2 a b (by omega) h1 h2) (by omega)⟩
def Flo (M:List (List Int)) (n k i0 j0:Nat) (M':List (List Int)):Prop:=∀ a b,a<n->b<n->at2 M' a b=if a<i0\/(a=i0/\b<j0) then min (at2 M a b) (at2 M a k+at2 M k b) else at2 M a b
theorem aFA {M M':List (List Int)}{n k:Nat}(hk:k<n)(b:Bs M n)(s:Sy M n)(f:Flo M n k n 0 M'):Bs M' n/\Sy M' n:=by
 refine ⟨fun i j hi hj=>?_,fun i j hi hj=>?_⟩
 ·rw [f i j hi hj,if_pos (.inl hi)]
  have:=b i j hi hj
  have:=b i k hi hk
  have:=b k j hk hj
  omega
 ·rw [f i j hi hj,f j i hj hi,if_pos (.inl hi),if_pos (.inl hj),s i j hi hj,s i k hi hk,s k j hk hj,Int.add_comm]
theorem aBL {M M':List (List Int)}{n k i0 j0:Nat}(hk:k<n)(b:Bs M n)(f:Flo M n k i0 j0 M'){x:Nat}(hx:x<n):at2 M' x k=at2 M x k/\at2 M' k x=at2 M k x:=by
 have:=b k k hk hk
 constructor
 ·rw [f x k hx hk]
  split
  ·omega
  ·rfl
 ·rw [f k x hk hx]
  split
  ·omega
  ·rfl
def eM (K:ae):Sp:=fun vs H Q _=>∃ (F:Addr) (ls:List Addr) (M:List (List Int)) (n:Nat),vs=[.ref F]/\Mat H F ls M/\Quad M n/\Bs M n/\Sy M n/\1<=n/\n<=8/\∀ T v H',Same H H'->Quad T n->Bs T n->Sy T n->Sh K H' (lH T) v->Q v H'
theorem aBp:∀ vs H Q E,eM K vs H Q E->lN K { nx:=fun _ H'=>Q .non H',rt:=Q } (bW ["rows","found","k","i","j","step"] vs) H:=by
 intro vs H Q E h
 obtain ⟨F0,ls0,M0,n,rfl,m0,q0,b0,y0,n1,n8,q⟩:=h
 have l0:ls0.length=n:=by rw [m0.len,q0.len]
 have lenF:∀ {H'},Same H H'->SqL K H' F0 (ls0.map V.ref):=fun s => .of (s _ _ m0.top)
 refine ⟨_,rfl,F0,rfl, .inl ⟨⟨_, .of m0.top⟩,fun F hF=>?_⟩⟩
 refine tM (vars:=[0]) (K:=K) (a:=F0) (xs:=ls0.map V.ref) (fun i L H'=>∃ ls:List Addr,L=ls.map V.ref/\ls.length=i/\ls.Nodup/\F∉ls/\(∀ (j:Nat) (x:Addr) (r:List Int),ls[j]?=some x->M0[j]?=some r->H' x=some (.lst (r.map V.int)))/\(∀ x∈ls,∃ r:List Int,H' x=some (.lst (r.map V.int)))/\∀ x∈ls,H x=none) (by decide) (by show 0<1;decide) ⟨[],rfl,rfl,rz,by simp,(fun _ _ _ z=>by cases z),by simp,by simp⟩ hF (fun i L H' sm _=>lenF sm) (fun i x σ1 H2 L D hx l1 ag1 s1 sm1 ha1 ⟨ls,e1,e2,e3,e4,e5,e55,e6⟩ hD=>?_) fun σ1 H2 L sm1 ha1 ⟨ls,e1,e2,e3,e4,e5,e55,e6⟩=>?_
 ·have hi:i<ls0.length:=by have:=(ai.mp hx).1;rwa [af] at this
  obtain ⟨row,g1,g2,g3⟩:=q0.get (show i<n by omega)
  obtain rfl:x = .ref ls0[i]:=by
   rw [az,ah hi] at hx
   exact (cu hx).symm
  have hrow:=m0.row i _ row (ah hi) g1
  refine ⟨_,s1, .inl ⟨ls0[i],row.map V.int,rfl, .inl (.of (sm1 _ _ hrow)),fun p2 hp2=>?_⟩⟩
  have hp2F:p2≠F:=fun e=>by rw [e,ha1] at hp2;cases hp2
  refine ⟨L,by rw [aX (jk hp2F)];exact ha1,bc (show L.length<=9 by rw [e1,af];omega) (by decide),?_⟩
  have keep:∀ b o,b≠F->H2 b=some o->upd (upd H2 p2 (.lst (row.map V.int))) F (.lst (L++[V.ref p2])) b=some o:=fun b o hb e=>by
   rw [aX hb,aX (aR e hp2)];exact e
  refine hD σ1 _ (L++[.ref p2]) l1 ag1 (fun b o e=>keep b o (aR e hF) (sm1 _ _ e)) aF ⟨ls++[p2],by rw [e1,cq];rfl,by rw [au,e2];rfl,?_,?_,?_,?_,?_⟩
  ·refine xQ e3 fun hmem=>?_
   obtain ⟨r,g⟩:=e55 p2 hmem
   rw [g] at hp2;cases hp2
  ·intro hmem
   rcases de.mp hmem with y | y
   ·exact e4 y
   ·exact hp2F (bq.mp y).symm
  ·intro j x r hj hr
   by_cases cj:j<ls.length
   ·rw [dk cj] at hj
    exact keep x _ (fun e=>e4 (e ▸ aw hj)) (e5 j x r hj hr)
   ·have ej:j=ls.length:=by
     have:=(ai.mp hj).1
     rw [au,jq] at this
     omega
    rw [ej,dw (ay _),sr] at hj
    cases hj
    rw [ej,e2,g1] at hr
    cases hr
    rw [aX hp2F]
    exact aF
  ·intro x hx
   rcases de.mp hx with y | y
   ·obtain ⟨r,g⟩:=e55 x y
    exact ⟨r,keep x _ (fun e=>e4 (e ▸ y)) g⟩
   ·rw [bq.mp y]
    exact ⟨row,by rw [aX hp2F];exact aF⟩
  ·intro x hx
   rcases de.mp hx with y | y
   ·exact e6 x y
   ·rw [bq.mp y]
    exact sm1.free hp2
 rw [af] at e2
 have mat0:Mat H2 F ls M0:=⟨by rw [ha1,e1],by rw [e2];exact m0.len,e5,e3,e4⟩
 refine ⟨_,rfl,F0,_,rfl, .inl (lenF sm1),(n:Int),by rw [af,l0],by omega,by omega,?_⟩
 rw [dy]
 refine cZ (lo:=0) (n:=n) (fun k σ' H'=>Same H H'/\∃ x2 x3 x4 x5 M,σ'=[some (.ref F0),some (.ref F),x2,x3,x4,x5]/\Mat H' F ls M/\Quad M n/\Bs M n/\Sy M n) ⟨sm1,_,_,_,_,M0,rfl,mat0,q0,b0,y0⟩ (fun k σ2 H3 hk ⟨s3,x2,x3,x4,x5,M,es,mM,qM,bM,yM⟩=>?_) fun σ2 H3 ⟨s3,x2,x3,x4,x5,M,es,mM,qM,bM,yM⟩=>?_
 ·subst es
  rw [v5]
  refine ⟨_,rfl,F0,_,rfl, .inl (lenF s3),(n:Int),by rw [af,l0],by omega,by omega,?_⟩
  rw [dy]
  refine cZ (lo:=0) (n:=n) (fun i σ' H'=>Same H H'/\∃ x3 x4 x5 M',σ'=[some (.ref F0),some (.ref F),some (.int (k:Int)),x3,x4,x5]/\Mat H' F ls M'/\Quad M' n/\Flo M n k i 0 M') ⟨s3,_,_,_,M,rfl,mM,qM,fun a b _ _=>by rw [if_neg (by omega)]⟩ (fun i σ3 H4 hi ⟨s4,x3,x4,x5,M4,es,m4,q4,f4⟩=>?_) fun σ3 H4 ⟨s4,x3,x4,x5,M4,es,m4,q4,f4⟩=>?_
  ·subst es
   rw [v5]
   refine ⟨_,rfl,F0,_,rfl, .inl (lenF s4),(n:Int),by rw [af,l0],by omega,by omega,?_⟩
   rw [dy]
   refine cZ (lo:=0) (n:=n) (fun j σ' H'=>Same H H'/\∃ x4 x5 M',σ'=[some (.ref F0),some (.ref F),some (.int (k:Int)),some (.int (i:Int)),x4,x5]/\Mat H' F ls M'/\Quad M' n/\Flo M n k i j M') ⟨s4,_,_,M4,rfl,m4,q4,f4⟩ (fun j σ4 H5 hj ⟨s5,x4,x5,M5,es,m5,q5,f5⟩=>?_) fun σ4 H5 ⟨s5,x4,x5,M5,es,m5,q5,f5⟩=>?_
   ·subst es
    rw [v5]
    refine zV (t:=1) (si:=3) (sj:=2) m5 q5 rfl rfl rfl hi hk (zV (t:=1) (si:=2) (sj:=4) m5 q5 rfl rfl rfl hk hj ?_)
    dsimp only [bQ]
    refine zV (t:=1) (si:=3) (sj:=4) m5 q5 rfl rfl rfl hi hj ⟨_,rfl,_,_,rfl,?_⟩
    have ik:=(aBL hk bM f5 hi).1
    have kj:=(aBL hk bM f5 hj).2
    refine yO (t:=1) (si:=3) (sj:=4) m5 q5 rfl rfl rfl hi hj fun l' H6 hl' e6' m6=>⟨?_,_,_,_,rfl,m6,jT q5 hi,fun a b ha hb=>?_⟩
    ·intro c o e
     rw [e6',aX (aR e (e6 l' hl'))]
     exact s5 _ _ e
    ·rw [mX q5 hi hj]
     have hij:at2 M5 i j=at2 M i j:=by rw [f5 i j hi hj,if_neg (by omega)]
     by_cases ce:a=i/\b=j
     ·rw [if_pos ce,hij,ik,kj]
      obtain ⟨rfl,rfl⟩:=ce
      rw [if_pos (show a<a\/(a=a/\b<b+1) by omega)]
      split <;> omega
     ·rw [if_neg ce,f5 a b ha hb]
      by_cases cl:a<i\/(a=i/\b<j)
      ·rw [if_pos cl,if_pos (by omega)]
      ·rw [if_neg cl,if_neg (by omega)]
   ·subst es
    refine ⟨s5,_,_,_,M5,rfl,m5,q5,fun a b ha hb=>?_⟩
    rw [f5 a b ha hb]
    by_cases cl:a<i+1
    ·rw [if_pos (by omega),if_pos (.inl cl)]
    ·rw [if_neg (by omega),if_neg (by omega)]
  ·subst es
   obtain ⟨b5,y5⟩:=aFA hk bM yM f4
   exact ⟨s4,_,_,_,_,M4,rfl,m4,q4,b5,y5⟩
 ·subst es
  exact wC (t:=1) rfl mM qM (by omega) fun p9 H' sm hS=>q M _ H' (s3.trans sm) qM bM yM hS
end
def e1 (K:ae) (aH:Sp) (bE:Sp) (cB:Sp):TS:=(aP (bU (bG aH [] E0 (aB (aE 0) (aB (aE 5) aQ))) (aL 10)) (aP (eD (bZ (tOp (gX K) (aE 4) (tC (.int 1)))) (aP (bU (tOp dP (tOp xD (aE 10) (tC (.int 2))) (tOp iW (aE 5) (tC (.int 1)))) (aL 10)) aK) aK) (aP (eD (tOr (bZ (tOp (gX K) (aE 4) (tC (.int 2)))) (bZ (tOp (gX K) (aE 4) (tC (.int 3))))) (aP (bU (tCB zT (aB (tOp iW (tOp (bF K) (tOp (bF K) (aE 7) (aE 8)) (tC (.int 0))) (tOp (bF K) (tOp (bF K) (aE 7) (aE 9)) (tC (.int 0)))) aQ)) (aL 10)) aK) aK) (aP (eD (bZ (tOp (gX K) (aE 4) (tC (.int 3)))) (aP (bU (tOp (bQ K) (aE 10) (tCB zT (aB (tOp iW (tOp (bF K) (tOp (bF K) (aE 7) (aE 8)) (tC (.int 1))) (tOp (bF K) (tOp (bF K) (aE 7) (aE 9)) (tC (.int 1)))) aQ))) (aL 10)) aK) aK) (aP (eD (bZ (tOp (gX K) (aE 4) (tC (.int 4)))) (aP (bU (tOp iW (aE 5) (tC (.int 1))) (aL 10)) aK) aK) (aP (bU (tCB qK (aB (aE 10) (aB (tOp oX (tC (.int 10)) (tC (.int 6))) aQ))) (oZ (tOp (bF K) (aE 6) (aE 8)) (aE 9) fV)) (aP (bU (tOp (bF K) (tOp (bF K) (aE 6) (aE 8)) (aE 9)) (oZ (tOp (bF K) (aE 6) (aE 9)) (aE 8) fV)) aK)))))))
def e2 (K:ae) (aH:Sp) (bE:Sp) (cB:Sp):TS:=(aP (eD (bZ (tOp (gX K) (aE 4) (tC (.int 1)))) (aP (bU (tOp dP (tOp xD (aE 10) (tC (.int 2))) (tOp iW (aE 5) (tC (.int 1)))) (aL 10)) aK) aK) (aP (eD (tOr (bZ (tOp (gX K) (aE 4) (tC (.int 2)))) (bZ (tOp (gX K) (aE 4) (tC (.int 3))))) (aP (bU (tCB zT (aB (tOp iW (tOp (bF K) (tOp (bF K) (aE 7) (aE 8)) (tC (.int 0))) (tOp (bF K) (tOp (bF K) (aE 7) (aE 9)) (tC (.int 0)))) aQ)) (aL 10)) aK) aK) (aP (eD (bZ (tOp (gX K) (aE 4) (tC (.int 3)))) (aP (bU (tOp (bQ K) (aE 10) (tCB zT (aB (tOp iW (tOp (bF K) (tOp (bF K) (aE 7) (aE 8)) (tC (.int 1))) (tOp (bF K) (tOp (bF K) (aE 7) (aE 9)) (tC (.int 1)))) aQ))) (aL 10)) aK) aK) (aP (eD (bZ (tOp (gX K) (aE 4) (tC (.int 4)))) (aP (bU (tOp iW (aE 5) (tC (.int 1))) (aL 10)) aK) aK) (aP (bU (tCB qK (aB (aE 10) (aB (tOp oX (tC (.int 10)) (tC (.int 6))) aQ))) (oZ (tOp (bF K) (aE 6) (aE 8)) (aE 9) fV)) (aP (bU (tOp (bF K) (tOp (bF K) (aE 6) (aE 8)) (aE 9)) (oZ (tOp (bF K) (aE 6) (aE 9)) (aE 8) fV)) aK))))))
def e3 (K:ae) (aH:Sp) (bE:Sp) (cB:Sp):TS:=(aP (eD (tOr (bZ (tOp (gX K) (aE 4) (tC (.int 2)))) (bZ (tOp (gX K) (aE 4) (tC (.int 3))))) (aP (bU (tCB zT (aB (tOp iW (tOp (bF K) (tOp (bF K) (aE 7) (aE 8)) (tC (.int 0))) (tOp (bF K) (tOp (bF K) (aE 7) (aE 9)) (tC (.int 0)))) aQ)) (aL 10)) aK) aK) (aP (eD (bZ (tOp (gX K) (aE 4) (tC (.int 3)))) (aP (bU (tOp (bQ K) (aE 10) (tCB zT (aB (tOp iW (tOp (bF K) (tOp (bF K) (aE 7) (aE 8)) (tC (.int 1))) (tOp (bF K) (tOp (bF K) (aE 7) (aE 9)) (tC (.int 1)))) aQ))) (aL 10)) aK) aK) (aP (eD (bZ (tOp (gX K) (aE 4) (tC (.int 4)))) (aP (bU (tOp iW (aE 5) (tC (.int 1))) (aL 10)) aK) aK) (aP (bU (tCB qK (aB (aE 10) (aB (tOp oX (tC (.int 10)) (tC (.int 6))) aQ))) (oZ (tOp (bF K) (aE 6) (aE 8)) (aE 9) fV)) (aP (bU (tOp (bF K) (tOp (bF K) (aE 6) (aE 8)) (aE 9)) (oZ (tOp (bF K) (aE 6) (aE 9)) (aE 8) fV)) aK)))))
def e4 (K:ae) (aH:Sp) (bE:Sp) (cB:Sp):TS:=(aP (eD (bZ (tOp (gX K) (aE 4) (tC (.int 3)))) (aP (bU (tOp (bQ K) (aE 10) (tCB zT (aB (tOp iW (tOp (bF K) (tOp (bF K) (aE 7) (aE 8)) (tC (.int 1))) (tOp (bF K) (tOp (bF K) (aE 7) (aE 9)) (tC (.int 1)))) aQ))) (aL 10)) aK) aK) (aP (eD (bZ (tOp (gX K) (aE 4) (tC (.int 4)))) (aP (bU (tOp iW (aE 5) (tC (.int 1))) (aL 10)) aK) aK) (aP (bU (tCB qK (aB (aE 10) (aB (tOp oX (tC (.int 10)) (tC (.int 6))) aQ))) (oZ (tOp (bF K) (aE 6) (aE 8)) (aE 9) fV)) (aP (bU (tOp (bF K) (tOp (bF K) (aE 6) (aE 8)) (aE 9)) (oZ (tOp (bF K) (aE 6) (aE 9)) (aE 8) fV)) aK))))
def e5 (K:ae) (aH:Sp) (bE:Sp) (cB:Sp):TS:=(aP (eD (bZ (tOp (gX K) (aE 4) (tC (.int 4)))) (aP (bU (tOp iW (aE 5) (tC (.int 1))) (aL 10)) aK) aK) (aP (bU (tCB qK (aB (aE 10) (aB (tOp oX (tC (.int 10)) (tC (.int 6))) aQ))) (oZ (tOp (bF K) (aE 6) (aE 8)) (aE 9) fV)) (aP (bU (tOp (bF K) (tOp (bF K) (aE 6) (aE 8)) (aE 9)) (oZ (tOp (bF K) (aE 6) (aE 9)) (aE 8) fV)) aK)))
def e6 (K:ae) (aH:Sp) (bE:Sp) (cB:Sp):TS:=(aP (bU (tCB qK (aB (aE 10) (aB (tOp oX (tC (.int 10)) (tC (.int 6))) aQ))) (oZ (tOp (bF K) (aE 6) (aE 8)) (aE 9) fV)) (aP (bU (tOp (bF K) (tOp (bF K) (aE 6) (aE 8)) (aE 9)) (oZ (tOp (bF K) (aE 6) (aE 9)) (aE 8) fV)) aK))
def f3 (K:ae) (aH:Sp) (aS:Sp):TS:=(aP (eD (bZ (tOp (gX K) (aE 4) (tC (.int 4)))) (aP (bU (tOp iW (bG aH [] E0 (aB (aE 0) (aB (tOp oX (tC (.int 10)) (tC (.int 20))) aQ))) (tOp dP (tC (.int 5)) (tOp oX (tC (.int 10)) (tC (.int 19))))) (aL 5)) aK) aK) (aP (eD (bZ (tOp (gX K) (aE 4) (tC (.int 5)))) (aP (bU (tOp iW (bG aH [] E0 (aB (aE 0) (aB (tOp oX (tC (.int 10)) (tC (.int 6))) aQ))) (tOp oX (tC (.int 10)) (tC (.int 5)))) (aL 5)) aK) aK) (aP (bU (tOp (bQ K) (tC (.int 1)) (tOp dP (bG aH [] E0 (aB (aE 0) (aB (tC (.int 20)) aQ))) (tCB yI (aB (tOp yGt (aE 4) (tC (.int 0))) aQ)))) (aL 6)) (aP (eD (bZ (tOp (gX K) (bG aH [] E0 (aB (aE 0) (aB (tC (.int 8)) aQ))) (tC (.int 7)))) (aP (bU (tOp (bF K) (oR (aB (tC (.int 23)) (aB (tC (.int 97)) (aB (tOp (bQ K) (tOp oX (tC (.int 10)) (tC (.int 9))) (tC (.int 7))) aQ)))) (bG aH [] E0 (aB (aE 0) (aB (tC (.int 3)) aQ)))) (aL 6)) aK) aK) (aP (jD (tBM K "list" eJ (aE 2) (aB (bG aS [] E0 (aB (aE 5) (aB (aE 6) aQ))) aQ))) aK)))))
def f4 (K:ae) (aH:Sp) (aS:Sp):TS:=(aP (eD (bZ (tOp (gX K) (aE 4) (tC (.int 5)))) (aP (bU (tOp iW (bG aH [] E0 (aB (aE 0) (aB (tOp oX (tC (.int 10)) (tC (.int 6))) aQ))) (tOp oX (tC (.int 10)) (tC (.int 5)))) (aL 5)) aK) aK) (aP (bU (tOp (bQ K) (tC (.int 1)) (tOp dP (bG aH [] E0 (aB (aE 0) (aB (tC (.int 20)) aQ))) (tCB yI (aB (tOp yGt (aE 4) (tC (.int 0))) aQ)))) (aL 6)) (aP (eD (bZ (tOp (gX K) (bG aH [] E0 (aB (aE 0) (aB (tC (.int 8)) aQ))) (tC (.int 7)))) (aP (bU (tOp (bF K) (oR (aB (tC (.int 23)) (aB (tC (.int 97)) (aB (tOp (bQ K) (tOp oX (tC (.int 10)) (tC (.int 9))) (tC (.int 7))) aQ)))) (bG aH [] E0 (aB (aE 0) (aB (tC (.int 3)) aQ)))) (aL 6)) aK) aK) (aP (jD (tBM K "list" eJ (aE 2) (aB (bG aS [] E0 (aB (aE 5) (aB (aE 6) aQ))) aQ))) aK))))
def f5 (K:ae) (aH:Sp) (aS:Sp):TS:=(aP (bU (tOp (bQ K) (tC (.int 1)) (tOp dP (bG aH [] E0 (aB (aE 0) (aB (tC (.int 20)) aQ))) (tCB yI (aB (tOp yGt (aE 4) (tC (.int 0))) aQ)))) (aL 6)) (aP (eD (bZ (tOp (gX K) (bG aH [] E0 (aB (aE 0) (aB (tC (.int 8)) aQ))) (tC (.int 7)))) (aP (bU (tOp (bF K) (oR (aB (tC (.int 23)) (aB (tC (.int 97)) (aB (tOp (bQ K) (tOp oX (tC (.int 10)) (tC (.int 9))) (tC (.int 7))) aQ)))) (bG aH [] E0 (aB (aE 0) (aB (tC (.int 3)) aQ)))) (aL 6)) aK) aK) (aP (jD (tBM K "list" eJ (aE 2) (aB (bG aS [] E0 (aB (aE 5) (aB (aE 6) aQ))) aQ))) aK)))
def f6 (K:ae) (aH:Sp) (aS:Sp):TS:=(aP (eD (bZ (tOp (gX K) (bG aH [] E0 (aB (aE 0) (aB (tC (.int 8)) aQ))) (tC (.int 7)))) (aP (bU (tOp (bF K) (oR (aB (tC (.int 23)) (aB (tC (.int 97)) (aB (tOp (bQ K) (tOp oX (tC (.int 10)) (tC (.int 9))) (tC (.int 7))) aQ)))) (bG aH [] E0 (aB (aE 0) (aB (tC (.int 3)) aQ)))) (aL 6)) aK) aK) (aP (jD (tBM K "list" eJ (aE 2) (aB (bG aS [] E0 (aB (aE 5) (aB (aE 6) aQ))) aQ))) aK))
def f7 (K:ae) (aH:Sp) (aS:Sp):TS:=(aP (jD (tBM K "list" eJ (aE 2) (aB (bG aS [] E0 (aB (aE 5) (aB (aE 6) aQ))) aQ))) aK)
def aFS (p:Addr) (ls:List Addr) (H H':Hp):Prop:=∀ b o,b≠p->b∉ls->H b=some o->H' b=some o
theorem aIw {a b:Nat}:eqD (.int (a:Int)) (.int (b:Int))=decide (a=b):=by
 rw [eqD]
 by_cases c:a=b
 ·rw [decide_eq_true c,c];simp
 ·rw [decide_eq_false c];simp;omega
section
variable {K:ae}{p l F:Addr}{ls:List Addr}{ns:List Int}{n:Nat}
structure Ro (K:ae)(G:Hp)(p l F:Addr)(ls:List Addr)(ns:List Int)(n:Nat)(H':Hp):Prop where
 ex:∃ M,Quad M n/\Bs M n/\Sy M n/\Mat H' F ls M
 pen:Pen H' p l ns
 sl:aFS p ls G H'
theorem Ro.draw {G H' H2:Hp}(h:Ro K G p l F ls ns n H')(hF:F≠p)(hl:∀ x∈ls,x≠p)(hP:Pen H2 p l ns)(sx:SameX p H' H2):Ro K G p l F ls ns n H2:=by
 obtain ⟨M,q,b,s,m⟩:=h.ex
 exact ⟨⟨M,q,b,s,m.keep fun c o hc e=>sx c o (by rcases hc with rfl | hc;exact hF;exact hl c hc) e⟩,hP,fun c o hc hn e=>sx c o hc (h.sl c o hc hn e)⟩
variable {G:Hp}{x0 x1 x2:Option V}{way top i j A:Nat}{D:mJ}{zs:List V}{R:List (List Int)}
structure Fx (K:ae)(G:Hp)(p l F:Addr)(ls:List Addr)(n A:Nat)(zs:List V)(R:List (List Int)):Prop where
 F:F≠p
 l:∀ x∈ls,x≠p/\x≠l
 Ap:A≠p
 Al:A∉ls
 hA:G A=some (.lst zs)
 rows:Rows K G zs R
 two:R.length=n/\∀ r∈R,∃ a b,r=[a,b]
 pen:∃ o,G p=some (.lst o)
 lst:∀ x∈ls,∃ o,G x=some (.lst o)
theorem aFD {H':Hp}{b:Addr}{xs:List V}(fx:Fx K G p l F ls n A zs R)(sl:aFS p ls G H')(h:SqT K G b xs):SqT K H' b xs:=by
 obtain ⟨o,ho⟩:=fx.pen
 have np:∀ u,G b=some u->(∀ ys,u ≠ .lst ys)->b≠p/\b∉ls:=fun u e hu=>⟨fun z=>by rw [z,ho] at e;exact hu _ (cu e).symm,fun z=>by
  obtain ⟨o',ho'⟩:=fx.lst b z
  rw [ho'] at e
  exact hu _ (cu e).symm⟩
 rcases h with (h | ⟨ob,h⟩) | h
 ·have:=np _ h (fun ys e=>by cases e)
  exact .inl (.inl (sl _ _ this.1 this.2 h))
 ·have:=np _ h (fun ys e=>by cases e)
  exact .inl (.inr ⟨ob,sl _ _ this.1 this.2 h⟩)
 ·exact .inr h
theorem uD {H':Hp}{σ:St}{Q:VK}{t s k:Nat}{c:Nat}(hk:k<2)(fx:Fx K G p l F ls n A zs R)(sl:aFS p ls G H')(ht:σ[t]?=some (some (.ref A)))(hs:σ[s]?=some (some (.int (c:Int))))(hc:c<n)(q:∀ v:Int,Q (.int v) H'):tOp (bF K) (tOp (bF K) (aE t) (aE s)) (tC (.int (k:Int))) σ H' Q:=by
 have hcR:c<R.length:=by rw [fx.two.1];exact hc
 obtain ⟨a,b,e⟩:=fx.two.2 _ (fb hcR)
 obtain ⟨d,e1,e2⟩:=fx.rows.2 c R[c] (ah hcR)
 have hA':=sl _ _ fx.Ap fx.Al fx.hA
 rw [e] at e2
 refine ⟨_,ht,_,hs,ixL (j:=c) (.of hA') e1 ?_⟩
 match k,hk with
 | 0,_=>exact ixT (j:=0) (aFD fx sl e2) rfl (q a)
 | 1,_=>exact ixT (j:=1) (aFD fx sl e2) rfl (q b)
def StE (p:Addr) (x1 x2:Option V) (n way top:Nat) (F A:Addr) (i j:Nat) (x:Option V):St:=[some (.ref p),x1,x2,some (.int (n:Int)),some (.int (way:Int)),some (.int (top:Int)),some (.ref F),some (.ref A),some (.int (i:Int)),some (.int (j:Int)),x]
theorem aHr {H':Hp}{v:Int}(fx:Fx K G p l F ls n A zs R)(ro:Ro K G p l F ls ns n H')(hi:i<n)(hj:j<n)(hij:i<j)(h0:0<=v)(q:∀ x H2,Ro K G p l F ls ns n H2->D.nx (StE p x1 x2 n way top F A i j x) H2):e6 K eK (fQ K) (eM K) D (StE p x1 x2 n way top F A i j (some (.int v))) H':=by
 obtain ⟨M,qM,bM,sM,mM⟩:=ro.ex
 refine ⟨_,rfl,10,6,rfl,rfl,⟨by decide,by decide,by decide⟩,_,_,rfl,?_⟩
 have hw:∃ w:Int,(if ((10:Int) ^ (6:Int).toNat)<v then ((10:Int) ^ (6:Int).toNat) else v)=w/\0<=w/\w<=1000000:=by
  refine ⟨_,rfl,?_⟩
  have:((10:Int) ^ (6:Int).toNat)=1000000:=by decide
  rw [this]
  split <;> omega
 obtain ⟨w,ew,w0,w1⟩:=hw
 rw [ew]
 refine yO (t:=6) (si:=8) (sj:=9) mM qM rfl rfl rfl hi hj fun l1 H1 hl1 e1 m1=>?_
 have q1:=jT (j:=j) (v:=w) qM hi
 refine zV (t:=6) (si:=8) (sj:=9) m1 q1 rfl rfl rfl hi hj ?_
 rw [mX qM hi hj,if_pos ⟨rfl,rfl⟩]
 refine yO (t:=6) (si:=9) (sj:=8) m1 q1 rfl rfl rfl hj hi fun l2 H2 hl2 e2 m2=>q _ H2 ⟨⟨_,jT q1 hj,(aEy bM sM qM hi hj w0 w1).1,(aEy bM sM qM hi hj w0 w1).2,m2⟩,?_,fun c o hc hn e=>?_⟩
 ·rw [e2,e1]
  exact (ro.pen.upd (fx.l l1 hl1).1 (fx.l l1 hl1).2).upd (fx.l l2 hl2).1 (fx.l l2 hl2).2
 ·rw [e2,aX (fun z=>hn (by rw [z];exact hl2)),e1,aX (fun z=>hn (by rw [z];exact hl1))]
  exact ro.sl c o hc hn e
theorem aHs {H':Hp}{v:Int}(fx:Fx K G p l F ls n A zs R)(ro:Ro K G p l F ls ns n H')(hi:i<n)(hj:j<n)(hij:i<j)(ht:2<=top)(h0:0<=v)(q:∀ x H2,Ro K G p l F ls ns n H2->D.nx (StE p x1 x2 n way top F A i j x) H2):e5 K eK (fQ K) (eM K) D (StE p x1 x2 n way top F A i j (some (.int v))) H':=by
 refine ⟨_,rfl, .int (way:Int), .int 4,bh _,rfl,rfl,_,rfl,aCP (fun _=>?_) fun _=>?_⟩
 ·exact ⟨_,rfl,_,_,rfl,rfl,aHr fx ro hi hj hij (by omega) q⟩
 ·exact aHr fx ro hi hj hij h0 q
theorem aHC {H':Hp}{v:Int}(fx:Fx K G p l F ls n A zs R)(ro:Ro K G p l F ls ns n H')(hi:i<n)(hj:j<n)(hij:i<j)(ht:2<=top)(h0:0<=v)(q:∀ x H2,Ro K G p l F ls ns n H2->D.nx (StE p x1 x2 n way top F A i j x) H2):e4 K eK (fQ K) (eM K) D (StE p x1 x2 n way top F A i j (some (.int v))) H':=by
 refine ⟨_,rfl, .int (way:Int), .int 3,bh _,rfl,rfl,_,rfl,aCP (fun _=>?_) fun _=>?_⟩
 ·refine ⟨_,rfl,uD (t:=7) (s:=8) (k:=1) (by decide) fx ro.sl rfl rfl hi fun a=>uD (t:=7) (s:=9) (k:=1) (by decide) fx ro.sl rfl rfl hj fun b=>⟨_,_,rfl,rfl,_,rfl,?_⟩⟩
  exact aHs fx ro hi hj hij ht (by split <;> omega) q
 ·exact aHs fx ro hi hj hij ht h0 q
theorem aGW {H':Hp}{v:Int}(fx:Fx K G p l F ls n A zs R)(ro:Ro K G p l F ls ns n H')(hi:i<n)(hj:j<n)(hij:i<j)(ht:2<=top)(h0:0<=v)(q:∀ x H2,Ro K G p l F ls ns n H2->D.nx (StE p x1 x2 n way top F A i j x) H2):e3 K eK (fQ K) (eM K) D (StE p x1 x2 n way top F A i j (some (.int v))) H':=by
 have go:(aP (bU (tCB zT (aB (tOp iW (tOp (bF K) (tOp (bF K) (aE 7) (aE 8)) (tC (.int 0))) (tOp (bF K) (tOp (bF K) (aE 7) (aE 9)) (tC (.int 0)))) aQ)) (aL 10)) aK) { D with nx:=e4 K eK (fQ K) (eM K) D } (StE p x1 x2 n way top F A i j (some (.int v))) H':=by
  refine uD (t:=7) (s:=8) (k:=0) (by decide) fx ro.sl rfl rfl hi fun a=>uD (t:=7) (s:=9) (k:=0) (by decide) fx ro.sl rfl rfl hj fun b=>⟨_,_,rfl,rfl,_,rfl,?_⟩
  exact aHC fx ro hi hj hij ht (by split <;> omega) q
 refine ⟨_,rfl, .int (way:Int), .int 2,bh _,rfl,rfl,_,rfl,aCP (fun _=>iI rfl go) fun _=>⟨_,rfl, .int (way:Int), .int 3,bh _,rfl,rfl,_,rfl,aCP (fun _=>go) fun _=>aHC fx ro hi hj hij ht h0 q⟩⟩
theorem aIX {H':Hp}{v:Int}(fx:Fx K G p l F ls n A zs R)(ro:Ro K G p l F ls ns n H')(hi:i<n)(hj:j<n)(hij:i<j)(ht:2<=top)(ht2:top<=1000001)(h0:0<=v)(q:∀ x H2,Ro K G p l F ls ns n H2->D.nx (StE p x1 x2 n way top F A i j x) H2):e2 K eK (fQ K) (eM K) D (StE p x1 x2 n way top F A i j (some (.int v))) H':=by
 refine ⟨_,rfl, .int (way:Int), .int 1,bh _,rfl,rfl,_,rfl,aCP (fun _=>?_) fun _=>?_⟩
 ·refine ⟨_,rfl,_,_,rfl,rfl,by show (0:Int)<2;decide,_,rfl,_,_,rfl,rfl, .inl (.inr ⟨by omega,by omega⟩),?_⟩
  exact aGW fx ro hi hj hij ht (Int.mul_nonneg (yp _ (by decide)) (by omega)) q
 ·exact aGW fx ro hi hj hij ht h0 q
theorem aIl {H':Hp}{x:Option V}(fx:Fx K G p l F ls n A zs R)(ro:Ro K G p l F ls ns n H')(hi:i<n)(hj:j<n)(hij:i<j)(ht:2<=top)(ht2:top<=1000001)(q:∀ x H2,Ro K G p l F ls ns n H2->D.nx (StE p x1 x2 n way top F A i j x) H2):e1 K eK (fQ K) (eM K) D (StE p x1 x2 n way top F A i j x) H':=by
 refine ⟨_,rfl,_,rfl,p,l,ns,top,rfl,ro.pen,by omega,bc ht2 (by decide),fun r H2 hr hP sx=>?_⟩
 exact aIX fx (ro.draw fx.F (fun x hx=>(fx.l x hx).1) hP sx) hi hj hij ht ht2 (by omega) q
def zD (K:ae):Sp:=fun vs H Q _=>∃ (p l:Addr) (ns:List Int) (lo d:Nat),vs=[.ref p, .int (lo:Int), .int ((lo+d:Nat):Int)]/\1<=lo/\lo+d<=8/\Pen H p l ns/\∀ T n v H',lo<=n->n<=lo+d->Quad T n->Bs T n->Sy T n->Sh K H' (lH T) v->Pen H' p l ns->SameX p H H'->Q v H'
theorem aDP:∀ vs H Q E,zD K vs H Q E->nS K eK (fQ K) (eM K) { nx:=fun _ H'=>Q .non H',rt:=Q } (bW ["feed","least","most","many","way","top","rows","spots","i","j","found"] vs) H:=by
 intro vs H Q E h
 obtain ⟨p,l,ns,lo,d,rfl,lo1,lo8,hP0,q⟩:=h
 refine ⟨_,rfl,_,rfl,_,rfl,_,rfl,_,_,rfl,rfl,p,l,ns,d+1,by show [V.ref p, .int (((lo+d:Nat):Int) - (lo:Int)+1)]=[V.ref p, .int ((d+1:Nat):Int)];rw [show ((lo+d:Nat):Int) - (lo:Int)+1=((d+1:Nat):Int) by omega],hP0,by omega,bc (show d+1<=9 by omega) (by decide),fun r0 H0 hr0 hP1 sx0=>?_⟩
 dsimp only [bQ]
 obtain ⟨n,en⟩:∃ n:Nat,n=lo+r0:=⟨_,rfl⟩
 rw [show (lo:Int)+(r0:Int)=(n:Int) by omega]
 refine ⟨_,rfl,p,l,ns,8,rfl,hP1,by decide,by decide,fun way H1 hway hP2 sx1=>?_⟩
 refine ⟨show 4<=ba by decide,fun t0 ht0=>⟨_,rfl,p,l,ns,4,rfl,hP2.x (aJ ht0 _),by decide,by decide,fun r2 H2 hr2 hP3 sx2=>?_⟩⟩
 have et0:H2 t0=some (.lst [.int 2, .int 5, .int 30, .int 1000001]):=sx2 _ _ (hP2.ne ht0).1 aF
 have sx02:SameX p H H2:=((sx0.trans sx1).trans (aJ ht0 _).x).trans sx2
 have ctop:∃ top:Nat,[V.int 2, .int 5, .int 30, .int 1000001][r2]?=some (.int (top:Int))/\2<=top/\top<=1000001:=by
  match r2,hr2 with
  | 0,_=>exact ⟨2,rfl,by decide,by decide⟩
  | 1,_=>exact ⟨5,rfl,by decide,by decide⟩
  | 2,_=>exact ⟨30,rfl,by decide,by decide⟩
  | 3,_=>exact ⟨1000001,rfl,by decide,by decide⟩
 obtain ⟨top,etop,top2,topb⟩:=ctop
 refine ixL (j:=r2) (.of et0) etop ?_
 refine ⟨_,rfl,(n:Int),rfl,by omega,by omega,fun F hF=>?_⟩
 rw [dy]
 refine aBm (vars:=[0]) (fun i L H'=>∃ ls:List Addr,L=ls.map V.ref/\ls.length=i/\ls.Nodup/\F∉ls/\(∀ l∈ls,H' l=some (.lst (dj n (.int 0))))/\∀ l∈ls,H2 l=none) (by decide) (by show 0<2;decide) ⟨[],rfl,rfl,rz,by simp,by simp,by simp⟩ hF (fun i σ1 H3 L D hi l1 ag1 s1 sm1 ha1 ⟨ls,e1,e2,e3,e4,e5,e6⟩ hD=>?_) fun σ1 H3 L sm1 ha1 ⟨ls,e1,e2,e3,e4,e5,e6⟩=>?_
 ·have m1:σ1[1]?=some (some (.int (n:Int))):=(ag1 1 (by decide)).trans rfl
  refine ⟨by show 1<=ba;decide,fun p' hp=>⟨_,m1,p',(n:Int),_,rfl,rfl,aF,by omega,by omega,?_,fun p2 hp2=>?_⟩⟩
  ·rw [dy]
   exact et (show 1*n<=9 by omega) (by decide)
  have hpF:p'≠F:=fun e=>by rw [e,ha1] at hp;cases hp
  have hF2:upd H3 p' (.lst [V.int 0]) F=some (.lst L):=by rw [aX (jk hpF)];exact ha1
  have hp2F:p2≠F:=fun e=>by rw [e,hF2] at hp2;cases hp2
  rw [dy,List.flatten_replicate_singleton]
  refine ⟨L,by rw [aX (jk hp2F)];exact hF2,bc (show L.length<=9 by rw [e1,af];omega) (by decide),?_⟩
  have keep:∀ b o,b≠F->H3 b=some o->upd (upd (upd H3 p' (.lst [V.int 0])) p2 (.lst (dj n (V.int 0)))) F (.lst (L++[V.ref p2])) b=some o:=fun b o hb e=>by
   have e':upd H3 p' (.lst [V.int 0]) b=some o:=by rw [aX (aR e hp)];exact e
   rw [aX hb,aX (aR e' hp2)];exact e'
  refine hD σ1 _ (L++[.ref p2]) l1 ag1 (fun b o e=>keep b o (aR e hF) (sm1 _ _ e)) aF ⟨ls++[p2],by rw [e1,cq];rfl,by rw [au,e2];rfl,?_,?_,?_,?_⟩
  ·refine xQ e3 fun hmem=>?_
   have g:=e5 p2 hmem
   have g':upd H3 p' (.lst [V.int 0]) p2=some (.lst (dj n (.int 0))):=by rw [aX (aR g hp)];exact g
   rw [g'] at hp2;cases hp2
  ·intro hmem
   rcases de.mp hmem with y | y
   ·exact e4 y
   ·exact hp2F (bq.mp y).symm
  ·intro x hx
   rcases de.mp hx with y | y
   ·exact keep x _ (fun e=>e4 (e ▸ y)) (e5 x y)
   ·rw [bq.mp y,aX hp2F]
    exact aF
  ·intro x hx
   rcases de.mp hx with y | y
   ·exact e6 x y
   ·rw [bq.mp y]
    exact (sm1.trans (aJ hp _)).free hp2
 have mat0:Mat H3 F ls (dj n (dj n 0)):=by
  refine ⟨by rw [ha1,e1],by rw [e2,kr],fun i x r a b=>?_,e3,e4⟩
  have:=e5 x (aw a)
  rw [mn] at b
  split at b
  ·cases b
   rw [this,List.map_replicate]
  ·cases b
 have quad0:Quad (dj n (dj n (0:Int))) n:=⟨kr,fun r hr=>by rw [List.eq_of_mem_replicate hr,kr]⟩
 have hP4:=hP3.x sm1
 have nFp:=(hP3.ne hF).1
 have nls:∀ x∈ls,x≠p/\x≠l:=fun x hx=>hP3.ne (e6 x hx)
 refine ⟨_,rfl,(n:Int),rfl,by omega,by omega,fun A hA=>?_⟩
 rw [dy]
 have nA:=hP4.ne hA
 have nAls:A∉ls:=fun h=>by have:=e5 A h;rw [this] at hA;cases hA
 refine cZ (lo:=0) (n:=n) (fun i σ' H'=>(∃ y0,σ'=[y0,some (.ref p),some (.int (top:Int))])/\Pen H' p l ns/\SameX p H3 H'/\∃ L R,H' A=some (.lst L)/\Rows K H' L R/\R.length=i/\∀ r∈R,∃ a b,r=[a,b]) ⟨⟨_,rfl⟩,hP4.x (aJ hA _),(aJ hA _).x,[],[],aF,Rows.nil,rfl,(fun _ z=>nomatch z)⟩ (fun i σ2 H5 hi ⟨⟨y0,es⟩,hP5,sx5,L5,R5,hA5,r5,z5,t5⟩=>?_) fun σ2 H5 ⟨⟨y0,es⟩,hP5,sx5,L5,R5,hA5,r5,z5,t5⟩=>?_
 ·subst es
  refine ⟨_,rfl,_,rfl,p,l,ns,top,rfl,hP5,by omega,bc topb (by decide),fun ra H6 _ hP6 sx6=>?_⟩
  refine ⟨_,rfl,_,rfl,p,l,ns,top,rfl,hP6,by omega,bc topb (by decide),fun rb H7 _ hP7 sx7=>⟨show 2<=ba by decide,fun u hu=>?_⟩⟩
  have mu:=aJ hu (.tup [V.int (ra:Int), .int (rb:Int)])
  have sx67:=sx6.trans sx7
  obtain ⟨k5,z5',hp5⟩:=hP5
  have hA7:=mu _ _ (sx67 _ _ nA.1 hA5)
  have r7:Rows K (upd H7 u (.tup [V.int (ra:Int), .int (rb:Int)])) L5 R5:=(r5.map fun b rr hb=>wX hb hp5.1 sx67).same mu
  refine ⟨L5,hA7,bc (show L5.length<=9 by rw [r5.1];omega) (by decide),⟨_,rfl⟩,(hP7.x mu).upd nA.1 nA.2,?_,_,R5++[[(ra:Int),(rb:Int)]],aF,?_,by rw [au,z5];rfl,fun r hr=>?_⟩
  ·intro c o hc e
   rw [aX (aR e hA)]
   exact mu _ _ (sx67 _ _ hc (sx5 _ _ hc e))
  ·exact Rows.put (Rows.snoc r7 (.of aF)) hA7
  ·rcases de.mp hr with hr | hr
   ·exact t5 r hr
   ·rw [bq.mp hr];exact ⟨_,_,rfl⟩
 subst es
 have mat5:Mat H5 F ls (dj n (dj n 0)):=mat0.keep fun c o hc e=>sx5 c o (by rcases hc with rfl | hc;exact nFp;exact (nls c hc).1) e
 refine ⟨_,rfl,n,rfl,by omega,fun Fp ys M H6 m6 hFp0 hFp rp gM _ zM=>?_⟩
 refine ⟨Fp,rfl, .inl ⟨⟨_, .of hFp⟩,?_⟩⟩
 obtain ⟨k6,z6,hp6⟩:=hP5.x m6
 have fx:Fx K H6 p l F ls n A L5 R5:=⟨nFp,nls,nA.1,nAls,m6 _ _ hA5,r5.same m6,⟨z5,t5⟩,⟨_,hp6.1⟩,fun x hx=>⟨_,m6 _ _ (sx5 _ _ (nls x hx).1 (e5 x hx))⟩⟩
 have nFpp:Fp≠p:=(hP5.ne hFp0).1
 have nFpl:Fp∉ls:=fun h=>by
  have:=sx5 _ _ (nls Fp h).1 (e5 Fp h)
  rw [hFp0] at this
  cases this
 have ro0:Ro K H6 p l F ls ns n H6:=⟨⟨_,quad0,fun i j _ _=>by rw [aAU];omega,fun i j _ _=>by rw [aAU,aAU],mat5.same m6⟩,⟨k6,z6,hp6⟩,fun c o _ _ e=>e⟩
 refine cN (K:=K) (a:=Fp) (xs:=ys) (fun k σ' H'=>Ro K H6 p l F ls ns n H'/\∃ x8 x9 x10,σ'=[some (.ref p),some (.int (lo:Int)),some (.int ((lo+d:Nat):Int)),some (.int (n:Int)),some (.int (way:Int)),some (.int (top:Int)),some (.ref F),some (.ref A),x8,x9,x10]) ⟨ro0,_,_,_,rfl⟩ (fun k σ' H' _ ⟨ro,_⟩ => .of (ro.sl _ _ nFpp nFpl hFp)) (fun k x σ' H' hx ⟨ro,x8,x9,x10,es⟩=>?_) fun σ' H' ⟨ro,x8,x9,x10,es⟩=>?_
 ·subst es
  obtain ⟨e,b,he,rfl,hb⟩:=nN rp hx
  obtain ⟨g1,g2⟩:=gM e (aw he)
  refine ⟨b,_,rfl,aFD fx ro.sl hb,rfl,cF e.1,[cF e.2],rfl,cF e.2,[],rfl,rfl,?_⟩
  exact aIl (way:=way) (x:=x10) fx ro (by omega) g2 g1 top2 topb fun x H7 ro7=>⟨ro7,_,_,_,rfl⟩
 ·subst es
  obtain ⟨M',qM,bM,sM,mM⟩:=ro.ex
  have sxE:SameX p H H':=fun c o hc e=>by
   have c3:H3 c=some o:=sm1 _ _ (sx02 _ _ hc e)
   have hn:c∉ls:=fun h=>by
    have h2:=e6 c h
    rw [sx02 _ _ hc e] at h2
    cases h2
   exact ro.sl c o hc hn (m6 _ _ (sx5 _ _ hc c3))
  refine ⟨_,rfl,_,_,rfl,rfl,_,rfl,aCP (fun _=>?_) fun _=>?_⟩
  ·exact ⟨_,rfl,F,ls,M',n,rfl,mM,qM,bM,sM,by omega,by omega,fun T v H8 s8 qT bT sT hT=>q T n v H8 (by omega) (by omega) qT bT sT hT (ro.pen.x s8) (sxE.trans s8.x)⟩
  ·exact wC (t:=6) rfl mM qM (by omega) fun p9 H8 s8 hT=>q M' n _ H8 (by omega) (by omega) qM bM sM hT (ro.pen.x s8) (sxE.trans s8.x)
def OkB (P:Pr):Prop:=∀ e∈P,0<e.2/\e.2<2 ^ 31/\e.1.natAbs<2 ^ 100
structure Pf (K:ae)(G:Hp)(p l F:Addr)(ns:List Int)(i:Nat)(H':Hp):Prop where
 pen:Pen H' p l ns
 sx:SameX p G H'
 ex:∃ ys P,H' F=some (.lst ys)/\Rows K H' ys (prI P)/\OkB P/\P.length=i
theorem Pf.draw {H' H2:Hp}{k:Nat}(h:Pf K G p l F ns k H')(hF:F≠p)(hP:Pen H2 p l ns)(sx:SameX p H' H2):Pf K G p l F ns k H2:=by
 obtain ⟨ys,P,a,b,c,d⟩:=h.ex
 obtain ⟨k,z,hp⟩:=h.pen
 exact ⟨hP,h.sx.trans sx,ys,P,sx _ _ hF a,b.map fun _ _ hb=>wX hb hp.1 sx,c,d⟩
def StP (p:Addr) (n:Nat) (F:Addr) (x3:Option V) (way:Nat) (x5 x6:Option V):St:=[some (.ref p),some (.int (n:Int)),some (.ref F),x3,some (.int (way:Int)),x5,x6]
variable {H':Hp}{k:Nat}{x3 x6:Option V}{t b:Int}
theorem aGa (nF:F≠p/\F≠l/\G F=none)(pf:Pf K G p l F ns k H')(hk:k<8)(ht:t.natAbs<2 ^ 100)(b0:0<b)(b1:b<2 ^ 31)(q:∀ σ' H2,Pf K G p l F ns (k+1) H2->(∃ x4 x5 x6,σ'=[some (.ref p),some (.int (n:Int)),some (.ref F),x3,x4,x5,x6])->D.nx σ' H2):f7 K eK (jP K) D (StP p n F x3 way (some (.int t)) (some (.int b))) H':=by
 obtain ⟨ys,P,a1,a2,a3,a4⟩:=pf.ex
 refine ⟨_,rfl, .inl ⟨rfl,_, .of a1⟩,_,rfl,_,rfl,t,b,rfl,b0,cv (show b.natAbs<2 ^ 31 by omega) (jy (by decide) (by decide)),fun u H2 s2 hu=>?_⟩
 have a1':=s2 _ _ a1
 have yl:ys.length=P.length:=by rw [a2.1];unfold prI;rw [af]
 refine ⟨F,ys,_,rfl,rfl,a1',bc (show ys.length<=9 by omega) (by decide),q _ _ ⟨(pf.pen.x s2).upd nF.1 nF.2.1,fun c o hc e=>?_,_,P++[(t / gd t b,b / gd t b)],aF,?_,fun e he=>?_,by rw [au,a4];rfl⟩ ⟨_,_,_,rfl⟩⟩
 ·rw [aX (aR e nF.2.2)]
  exact s2 _ _ (pf.sx _ _ hc e)
 ·unfold prI
  rw [cq]
  exact Rows.put (Rows.snoc (a2.same s2) (.of hu)) a1'
 ·rcases de.mp he with he | he
  ·exact a3 e he
  ·rw [bq.mp he]
   obtain ⟨_,_,r3,_⟩:=kK (i:=t) b0
   have:=nk (a:=b) (gd t b) (by omega)
   exact ⟨r3,by show b / gd t b<2 ^ 31;omega,aGG b0 ht⟩
theorem aIq (nF:F≠p/\F≠l/\G F=none)(pf:Pf K G p l F ns k H')(hk:k<8)(ht:t.natAbs<2 ^ 100)(b0:0<b)(b1:b<2 ^ 31)(q:∀ σ' H2,Pf K G p l F ns (k+1) H2->(∃ x4 x5 x6,σ'=[some (.ref p),some (.int (n:Int)),some (.ref F),x3,x4,x5,x6])->D.nx σ' H2):f6 K eK (jP K) D (StP p n F x3 way (some (.int t)) (some (.int b))) H':=by
 refine ⟨_,rfl,p,l,ns,8,rfl,pf.pen,by decide,by decide,fun r H2 _ hP2 sx2=>⟨.int (r:Int), .int 7,bh _,rfl,rfl,_,rfl,?_⟩⟩
 have pf2:=pf.draw nF.1 hP2 sx2
 refine aCP (fun _=>?_) fun _=>aGa nF pf2 hk ht b0 b1 q
 refine ⟨10,9,rfl,rfl,⟨by decide,by decide,by decide⟩,show 3<=ba by decide,fun u hu=>⟨_,rfl,p,l,ns,3,rfl,pf2.pen.x (aJ hu _),by decide,by decide,fun r3 H3 hr3 hP3 sx3=>?_⟩⟩
 have pu:Pf K G p l F ns k (upd H2 u (.lst [.int 23, .int 97, .int ((10:Int) ^ (9:Int).toNat+7)])):=by
  obtain ⟨ys,P,a1,a2,a3,a4⟩:=pf2.ex
  have mu:=aJ hu (.lst [.int 23, .int 97, .int ((10:Int) ^ (9:Int).toNat+7)])
  exact ⟨pf2.pen.x mu,pf2.sx.trans mu.x,ys,P,mu _ _ a1,a2.same mu,a3,a4⟩
 have pf3:=pu.draw nF.1 hP3 sx3
 have eu:H3 u=some (.lst [.int 23, .int 97, .int ((10:Int) ^ (9:Int).toNat+7)]):=sx3 _ _ (pf2.pen.ne hu).1 aF
 have cb:∃ b':Int,[V.int 23, .int 97, .int ((10:Int) ^ (9:Int).toNat+7)][r3]?=some (.int b')/\0<b'/\b'<2 ^ 31:=by
  match r3,hr3 with
  | 0,_=>exact ⟨_,rfl,by decide,by decide⟩
  | 1,_=>exact ⟨_,rfl,by decide,by decide⟩
  | 2,_=>exact ⟨_,rfl,by decide,by decide⟩
 obtain ⟨b',e1,e2,e3⟩:=cb
 exact ixL (j:=r3) (.of eu) e1 (aGa nF pf3 hk ht e2 e3 q)
theorem aHq (nF:F≠p/\F≠l/\G F=none)(pf:Pf K G p l F ns k H')(hk:k<8)(ht:t.natAbs<2 ^ 100)(q:∀ σ' H2,Pf K G p l F ns (k+1) H2->(∃ x4 x5 x6,σ'=[some (.ref p),some (.int (n:Int)),some (.ref F),x3,x4,x5,x6])->D.nx σ' H2):f5 K eK (jP K) D (StP p n F x3 way (some (.int t)) x6) H':=by
 refine ⟨_,rfl,p,l,ns,20,rfl,pf.pen,by decide,by decide,fun r H2 hr hP2 sx2=>⟨_,rfl,_,_,rfl,rfl, .inr ⟨_,rfl, .inl (.inl ⟨by omega,by omega⟩),?_⟩⟩⟩
 have pf2:=pf.draw nF.1 hP2 sx2
 have hb:∃ b:Int,1+(r:Int)*(if decide ((0:Int)<(way:Int)) then 1 else 0)=b/\0<b/\b<2 ^ 31:=by
  refine ⟨_,rfl,?_⟩
  split <;> omega
 obtain ⟨b,eb,b0,b1⟩:=hb
 dsimp only [bQ]
 show f6 K eK (jP K) D (StP p n F x3 way (some (.int t)) (some (.int (1+(r:Int)*(if decide ((way:Int) > (0:Int)) then 1 else 0))))) H2
 rw [show (1+(r:Int)*(if decide ((way:Int) > (0:Int)) then 1 else 0))=b from eb]
 exact aIq nF pf2 hk ht b0 b1 q
theorem aGd (nF:F≠p/\F≠l/\G F=none)(pf:Pf K G p l F ns k H')(hk:k<8)(ht:t.natAbs<2 ^ 100)(q:∀ σ' H2,Pf K G p l F ns (k+1) H2->(∃ x4 x5 x6,σ'=[some (.ref p),some (.int (n:Int)),some (.ref F),x3,x4,x5,x6])->D.nx σ' H2):f4 K eK (jP K) D (StP p n F x3 way (some (.int t)) x6) H':=by
 refine ⟨_,rfl, .int (way:Int), .int 5,bh _,rfl,rfl,_,rfl,aCP (fun _=>?_) fun _=>aHq nF pf hk ht q⟩
 refine ⟨_,rfl,10,6,rfl,rfl,⟨by decide,by decide,by decide⟩,p,l,ns,1000000,by rfl,pf.pen,by decide,by decide,fun r H2 hr hP2 sx2=>⟨10,5,rfl,rfl,⟨by decide,by decide,by decide⟩,_,_,rfl,rfl,?_⟩⟩
 refine aHq nF (pf.draw nF.1 hP2 sx2) hk (bc (m:=1100000) ?_ (by decide)) q
 have:((10:Int) ^ (5:Int).toNat)=100000:=by decide
 show ((r:Int) - (10:Int) ^ (5:Int).toNat).natAbs<=1100000
 rw [this]
 omega
theorem aIf (nF:F≠p/\F≠l/\G F=none)(pf:Pf K G p l F ns k H')(hk:k<8)(ht:t.natAbs<2 ^ 100)(q:∀ σ' H2,Pf K G p l F ns (k+1) H2->(∃ x4 x5 x6,σ'=[some (.ref p),some (.int (n:Int)),some (.ref F),x3,x4,x5,x6])->D.nx σ' H2):f3 K eK (jP K) D (StP p n F x3 way (some (.int t)) x6) H':=by
 refine ⟨_,rfl, .int (way:Int), .int 4,bh _,rfl,rfl,_,rfl,aCP (fun _=>?_) fun _=>aGd nF pf hk ht q⟩
 refine ⟨_,rfl,10,20,rfl,rfl,⟨by decide,by decide,by decide⟩,p,l,ns,100000000000000000000,by rfl,pf.pen,by decide,by decide,fun r H2 hr hP2 sx2=>⟨10,19,rfl,rfl,⟨by decide,by decide,by decide⟩, .inl (.inl ⟨by decide,by decide⟩),_,_,rfl,rfl,?_⟩⟩
 refine aGd nF (pf.draw nF.1 hP2 sx2) hk (bc (m:=200000000000000000000) ?_ (by decide)) q
 have:(5:Int)*((10:Int) ^ (19:Int).toNat)=50000000000000000000:=by decide
 show ((r:Int) - (5:Int)*(10:Int) ^ (19:Int).toNat).natAbs<=200000000000000000000
 rw [this]
 omega
def pE (K:ae):Sp:=fun vs H Q _=>∃ (p l:Addr) (ns:List Int) (n:Nat),vs=[.ref p, .int (n:Int)]/\Pen H p l ns/\n<=8/\∀ a xs P H',Pen H' p l ns->SameX p H H'->SqT K H' a xs->Rows K H' xs (prI P)->P.length=n->OkB P->Q (.ref a) H'
theorem aBS:∀ vs H Q E,pE K vs H Q E->kO K eK (jP K) { nx:=fun _ H'=>Q .non H',rt:=Q } (bW ["feed","many","found","k","way","top","bottom"] vs) H:=by
 intro vs H Q E h
 obtain ⟨p,l,ns,n,rfl,hP,h8,q⟩:=h
 refine ⟨show 0<=ba by decide,fun F hF=>?_⟩
 have mF:=aJ hF (.lst [])
 have nF:=hP.ne hF
 refine ⟨_,rfl,(n:Int),rfl,by omega,by omega,?_⟩
 rw [dy]
 refine cZ (lo:=0) (n:=n) (fun k σ' H'=>Pf K H p l F ns k H'/\∃ x3 x4 x5 x6,σ'=[some (.ref p),some (.int (n:Int)),some (.ref F),x3,x4,x5,x6]) ⟨⟨hP.x mF,mF.x,[],[],aF,Rows.nil,(fun _ z=>nomatch z),rfl⟩,_,_,_,_,rfl⟩ (fun k σ' H' hk ⟨pf,x3,x4,x5,x6,es⟩=>?_) fun σ' H' ⟨pf,x3,x4,x5,x6,es⟩=>?_
 ·subst es
  refine ⟨_,rfl,p,l,ns,6,rfl,pf.pen,by decide,by decide,fun way H2 hw hP2 sx2=>?_⟩
  have pf2:=pf.draw nF.1 hP2 sx2
  refine ⟨_,rfl,p,l,ns,9,rfl,pf2.pen,by decide,by decide,fun r H3 hr hP3 sx3=>⟨_,rfl,_,_,rfl,rfl, .inr ⟨_,rfl, .inl (.inl ⟨by decide,by decide⟩),_,_,rfl,rfl,?_⟩⟩⟩
  have pf3:=pf2.draw nF.1 hP3 sx3
  refine aIf (way:=way) ⟨nF.1,nF.2,hF⟩ pf3 (by omega) (bc (m:=100) ?_ (by decide)) fun σ' H4 pf4 ⟨x4,x5,x6,es⟩=>⟨pf4,_,x4,x5,x6,es⟩
  split <;> omega
 ·subst es
  obtain ⟨ys,P,a1,a2,a3,a4⟩:=pf.ex
  refine ⟨_,rfl,F,ys,rfl, .inl ⟨.of a1,fun a ha=>?_⟩⟩
  have ma:=aJ ha (.tup ys)
  exact q a ys P _ (pf.pen.x ma) (pf.sx.trans ma.x) (.of aF) (a2.same ma) a4 a3
end
def Ev (T:List (List Int)) (n:Nat):Prop:=∀ i j,i<n->j<n->at2 T i j=at2 T j i
def gZ (T:List (List Int)) (n:Nat):List Bool:=(ar n).flatMap fun i=>(ar i).flatMap fun j=>[at2 T i j == at2 T j i]
section
variable {K:ae}
def aGh (K:ae) (f:List (List Int)->Nat->Bool):Sp:=fun vs H Q _=>∃ (v:V) (T:List (List Int)) (n:Nat),vs=[v]/\Sh K H (lH T) v/\Quad T n/\1<=n/\n<=8/\∀ H',Same H H'->Q (.bl (f T n)) H'
theorem aFt:∀ vs H Q E,aGh K (fun T n=>(gZ T n).all id) vs H Q E->wB K { nx:=fun _ H'=>Q .non H',rt:=Q } (bW ["table","many"] vs) H:=by
 intro vs H Q E h
 obtain ⟨v,T,n,rfl,hS,hq,h1,hn,q⟩:=h
 obtain ⟨a,rs,rfl,ha,hl,hrow⟩:=id hS.tab
 have hl:rs.length=n:=hl.trans hq.len
 refine ⟨_,rfl,a,rs,rfl, .inr ha,?_⟩
 rw [hl]
 refine ⟨_,rfl,(n:Int),rfl,by omega,by omega,fun acc hacc=>?_⟩
 rw [dy]
 refine kZ [0,1] ((gZ T n).map V.bl) hacc ?_ ?_ fun σ' H' sm hl'=>⟨acc,gZ T n,rfl, .inl (.of hl'),q H' sm⟩
 ·rw [af]
  have:=dS (fun i=>(ar i).flatMap fun j=>[at2 T i j == at2 T j i]) 8 n fun i hi=>by
   have:=dS (fun j=>[at2 T i j == at2 T j i]) 1 i fun _ _=>ay _
   omega
  unfold gZ
  omega
 ·refine Emits.cast (L:=(ar n).flatMap fun i=>(ar i).flatMap fun j=>[V.bl (at2 T i j == at2 T j i)]) ?_ (by unfold gZ;simp only [vC,df,sk])
  refine nJ (by decide) (by show 0<3;decide) fun i σ1 H1 hi l1 ag1 s1 sx1 _=>?_
  rw [v5] at s1
  refine Emits.mono (vars:=[1]) (wN (by decide) (by rw [l1];show 1<3;decide) (by omega) (fun Q hQ=>⟨_,s1,hQ H1 (Same.refl _)⟩) fun j σ2 H2 hj l2 ag2 s2 sx2 _=>?_) (by simp)
  have t2:σ2[2]?=some (some (.ref a)):=(ag2 2 (by decide)).trans ((ag1 2 (by decide)).trans rfl)
  have u1:σ2[0]?=some (some (.int (i:Int))):=(ag2 0 (by decide)).trans s1
  have S2:=hS.same (dH hacc (sx1.trans sx2))
  refine qF fun Q hQ=>?_
  refine oA t2 u1 s2 S2 hq (by omega) (by omega) (oA t2 s2 u1 S2 hq (by omega) (by omega) ⟨.int _, .int _,bh _,rfl,rfl,?_⟩)
  unfold eqD
  exact hQ H2 (Same.refl _)
theorem tN {T:List (List Int)}{n:Nat}(h:Ev T n):(gZ T n).all id=true:=by
 unfold gZ
 rw [qD]
 refine fg.mpr fun i hi=>?_
 rw [qD]
 refine fg.mpr fun j hj=>?_
 have hi:=cp.mp hi
 have hj:=cp.mp hj
 rw [h i j hi (by omega)]
 simp
end
section
variable {K:ae}
abbrev aHQ (K:ae):Sp:=aGh K (fun T n=>(gZ T n).all id)
def aIB (T:List (List Int)) (L:List (Nat × Nat)):Int:=(L.map fun e=>at2 T e.1 e.2).sum
def aHT (K:ae):Sp:=fun vs H Q _=>∃ (v:V) (a:Addr) (T:List (List Int)) (n:Nat) (ys:List V) (L:List (Nat × Nat)),vs=[v, .ref a]/\Sh K H (lH T) v/\Quad T n/\H a=some (.lst ys)/\Rows K H ys (prN L)/\(∀ e∈L,e.1<n/\e.2<n)/\L.length<=64/\∀ H',Same H H'->Q (.int (aIB T L)) H'
theorem aIC:∀ vs H Q E,aHT K vs H Q E->sY K { nx:=fun _ H'=>Q .non H',rt:=Q } (bW ["table","ties"] vs) H:=by
 intro vs H Q E h
 obtain ⟨v,a,T,n,ys,L,rfl,hS,qT,ha,hr,hL,z,q⟩:=h
 have yl:ys.length=L.length:=by rw [hr.1,eO]
 refine ⟨_,rfl,a,rfl, .inl ⟨⟨_, .of ha⟩,fun A hA=>?_⟩⟩
 refine cN (K:=K) (a:=a) (xs:=ys) (fun i σ' H'=>i<=ys.length/\Same H H'/\(∃ x0 x1,σ'=[x0,x1,some v])/\H' A=some (.lst (((L.take i).map fun e=>at2 T e.1 e.2).map V.int))) ⟨bh _,aJ hA _,⟨_,_,rfl⟩,aF⟩ (fun i σ1 H1 _ ⟨_,s1,_⟩ => .of (s1 _ _ ha)) (fun i x σ1 H1 hx ⟨_,s1,⟨x0,x1,es⟩,hA1⟩=>?_) fun σ1 H1 ⟨_,s1,_,hA1⟩=>?_
 ·subst es
  have hi:i<ys.length:=(ai.mp hx).1
  obtain ⟨e,b,he,rfl,hb⟩:=nN (hr.same s1) hx
  obtain ⟨g1,g2⟩:=hL e (aw he)
  refine ⟨b,_,rfl,hb,rfl,cF e.1,[cF e.2],rfl,cF e.2,[],rfl,rfl,?_⟩
  refine oA (t:=2) (si:=0) (sj:=1) rfl rfl rfl (hS.same s1) qT g1 g2 ⟨_,hA1,?_,hi,eZ hA s1,⟨_,_,rfl⟩,?_⟩
  ·rw [af,af,e8]
   exact bc (show _<=64 by omega) (by decide)
  ·rw [aF,fk,he,cq,cq]
   rfl
 ·rw [yl,fz] at hA1
  exact ⟨A,_,rfl, .inl (.of hA1),q H1 s1⟩
theorem aCo {vars:List Nat}{tb:TS}{acc a:Addr}{σ:St}{H:Hp}{xs:List V}{j:Nat}{L:Nat->List (List Int)}(hj:j∈vars)(hjl:j<σ.length)(hs:∀ H',SameX acc H H'->SqL K H' a xs)
  (h:∀ i x σ' H',xs[i]?=some x->σ'.length=σ.length->Agree vars σ σ'->σ'[j]?=some (some x)->SameX acc H H'->EmR K vars tb acc σ' H' (L i)) :
  EmR K vars (jE (Itl K a) (aL j) tb) acc σ H ((ar xs.length).flatMap L):=by
 intro D pre R ha hR hz hd
 refine cN (K:=K) (a:=a) (xs:=xs) (g:=aL j) (D:=D) (fun i σ' H'=>i<=xs.length/\σ'.length=σ.length/\Agree vars σ σ'/\SameX acc H H'/\∃ pre',H' acc=some (.lst pre')/\Rows K H' pre' (R++(ar i).flatMap L)) ⟨bh _,rfl,Agree.refl _ _,SameX.refl _ _,pre,ha,by simpa using hR⟩ (fun i σ1 H1 _ ⟨_,_,_,sx1,_⟩=>hs H1 sx1) (fun i x σ1 H1 hx ⟨_,hl1,ag1,sx1,pre1,h1,r1⟩=>?_) fun σ1 H1 ⟨_,hl1,ag1,sx1,pre1,h1,r1⟩=>hd σ1 H1 pre1 hl1 ag1 sx1 h1 r1
 have hi:i<xs.length:=(ai.mp hx).1
 have hle:=dY L (show i+1<=xs.length from hi)
 rw [bI,au] at hle
 refine h i x (σ1.set j (some x)) H1 hx (by rw [d8];exact hl1) (ag1.trans (Agree.set hj _)) (kT (by omega)) sx1 _ pre1 _ h1 r1 (by rw [au];omega) fun σ' H' pre' hl ag sx h2 r2=>⟨hi,hl.trans ((d8 ..).trans hl1),(ag1.trans (Agree.set hj _)).trans ag,sx1.trans sx,pre',h2,by rw [bI,<- gg];exact r2⟩
theorem EmR.mono {vars vars':List Nat}{tb:TS}{acc:Addr}{σ:St}{H:Hp}{L:List (List Int)}(h:EmR K vars tb acc σ H L)(hs:∀ k∈vars,k∈vars'):EmR K vars' tb acc σ H L:=
 fun D pre R ha hR hz hd=>h D pre R ha hR hz fun σ' H' pre' hl ag sx h1 h2=>hd σ' H' pre' hl (fun k hk=>ag k fun z=>hk (hs k z)) sx h1 h2
def mm (e:Nat × Nat):Nat × Nat:=(min e.1 e.2,max e.1 e.2)
theorem aJn {a b:Nat}:(if (b:Int)<(a:Int) then (b:Int) else (a:Int))=((min a b:Nat):Int):=by split <;> omega
theorem aJu {a b:Nat}:(if (b:Int) > (a:Int) then (b:Int) else (a:Int))=((max a b:Nat):Int):=by split <;> omega
theorem aEl {T:List (List Int)}{m:Nat}(s:Sy T m):∀ {es:List (Nat × Nat)},(∀ e∈es,e.1<m/\e.2<m)->aIB T (es.map mm)=(wts (at2 T) es).sum
 | [],_=>rfl
 | e :: es,h=>by
  have ih:=aEl s (es:=es) fun x hx=>h x (av _ hx)
  have he:=h e (by simp)
  have e1:at2 T (mm e).1 (mm e).2=at2 T e.1 e.2:=by
   unfold mm
   rcases sv e.1 e.2 with c | c
   ·show at2 T (min e.1 e.2) (max e.1 e.2)=_
    rw [ka c,qa c]
   ·show at2 T (min e.1 e.2) (max e.1 e.2)=_
    rw [qb c,qv c]
    exact s _ _ he.2 he.1
  unfold aIB at ih ⊢
  rw [df,df,jo,ih,e1]
  rfl
theorem aIa {a b:Int}{r q:List Int}(h:fO (a :: r) (b :: q)=false):b<=a:=by
 rw [fO] at h
 by_cases e:a=b
 ·omega
 ·rw [if_neg e] at h
  have:=of_decide_eq_false h
  omega
def zX (K : ae) (C : Addr) : Sp := fun vs H Q E => ∃ (v : V) (T : List (List Int)) (m : Nat), vs = [v] /\ Sh K H (lH T) v /\ Quad T m /\ 1 <= m /\ m <= 8 /\
  ((Sy T m /\ ∀ p tl us es ys L H', Same H H' -> H tl = none -> H' p = some (.tup [.int (wts (at2 T) es).sum, .ref tl]) -> Gr us es -> aCi (at2 T) us (wts (at2 T) es) -> us.Perm (ar m) -> H' tl = some (.lst ys) -> Rows K H' ys (prN L) -> L.Perm (es.map mm) -> (prN L).Pairwise (fun a b => fO b a = false) -> Q (.ref p) H') \/
   ((gZ T m).all id = false /\ ∀ H', Same H H' -> E (.ref C) none H'))
theorem aEn {L:List (Nat × Nat)}:∀ q∈prN L,q≠[]:=fun q hq=>by
 obtain ⟨e,_,rfl⟩:=cy.mp hq
 simp
theorem aAd {R:List (List Int)}{M:List (Nat × Nat)}(h:R.Perm (prN M)):∃ M',R=prN M'/\M'.Perm M:=by
 let un:List Int->Nat × Nat:=fun r=>((r.getD 0 0).toNat,(r.getD 1 0).toNat)
 have hu:∀ e:Nat × Nat,un [(e.1:Int),(e.2:Int)]=e:=fun e=>by
  show (((e.1:Int)).toNat,((e.2:Int)).toNat)=e
  simp
 refine ⟨R.map un,?_,?_⟩
 ·unfold prN
  rw [ft]
  symm
  have:∀ r∈R,((fun e:Nat × Nat=>[(e.1:Int),(e.2:Int)])∘un) r=r:=fun r hr=>by
   obtain ⟨e,_,rfl⟩:=cy.mp (h.mem_iff.mp hr)
   show [((un [(e.1:Int),(e.2:Int)]).1:Int),((un [(e.1:Int),(e.2:Int)]).2:Int)]=_
   rw [hu]
  rw [ij this,za]
 ·have:=h.map un
  unfold prN at this
  rw [ft] at this
  have e:M.map (un∘fun e:Nat × Nat=>[(e.1:Int),(e.2:Int)])=M:=by
   have:∀ e∈M,(un∘fun e:Nat × Nat=>[(e.1:Int),(e.2:Int)]) e=e:=fun e _=>hu e
   rw [ij this,za]
  rw [e] at this
  exact this
theorem aFR {C:Addr}:∀ vs H Q E,zX K C vs H Q E->oG K C E (aHQ K) (aHT K) { nx:=fun _ H'=>Q .non H',rt:=Q } (bW ["table","ties","inside","outside","way","one","other"] vs) H:=by
 intro vs H Q E h
 obtain ⟨v,T,m,rfl,hS,qT,m1,m8,⟨sy,q⟩ | ⟨nev,q⟩⟩:=h
 rotate_left
 ·refine ⟨_,rfl,v,T,m,rfl,hS,qT,m1,m8,fun H0 s0=>⟨_,rfl,?_⟩⟩
  exact iI (by show (!(gZ T m).all id)=true;rw [nev];rfl) (q H0 s0)
 refine ⟨_,rfl,v,T,m,rfl,hS,qT,m1,m8,fun H0 s0=>⟨_,rfl,?_⟩⟩
 refine cL (by show (!(gZ T m).all id)=false;rw [tN sy];rfl) ?_
 obtain ⟨a,rs,rfl,ha,hrl,hrow⟩:=id hS.tab
 have hrl:rs.length=m:=hrl.trans qT.len
 refine ⟨show 0<=ba by decide,fun F1 hF1=>⟨show 1<=ba by decide,fun F2 hF2=>?_⟩⟩
 have v1:=aJ hF1 (.lst [])
 have v2:=aJ hF2 (.lst [.int 0])
 refine ⟨_,rfl,a,rs,rfl, .inr (((s0.trans v1).trans v2).tup ha), .inr ⟨_,_,rfl,fun pr hpr=>?_⟩⟩
 rw [hrl]
 have v3:=aJ hpr (.rng 1 (m:Int))
 refine .inr ⟨pr,1,_,rfl,aF,⟨by omega,by omega,by omega,by omega,by omega⟩,fun F3 hF3=>?_⟩
 have er:(aCc 1 (m:Int)).map V.int=((ar (m - 1)).map (· + 1)).map cF:=by
  unfold aCc
  rw [ft,ft,show ((m:Int) - 1).toNat=m - 1 by omega]
  refine ij fun i _=>?_
  show V.int (1+(i:Int))=V.int ((i+1:Nat):Int)
  congr 1
  omega
 rw [er]
 have v4:=aJ hF3 (.lst (((ar (m - 1)).map (· + 1)).map cF))
 have hF1':=v4 _ _ (v3 _ _ (v2 _ _ (show upd H0 F1 (.lst []) F1=some (.lst []) from aF)))
 have hF2':=v4 _ _ (v3 _ _ (show upd (upd H0 F1 (.lst [])) F2 (.lst [.int 0]) F2=some (.lst [.int 0]) from aF))
 have hF3':upd (upd (upd (upd H0 F1 (.lst [])) F2 (.lst [.int 0])) pr (.rng 1 (m:Int))) F3 (.lst (((ar (m - 1)).map (· + 1)).map cF)) F3=some (.lst (((ar (m - 1)).map (· + 1)).map cF)):=aF
 have n12:F1≠F2:=aR (show upd H0 F1 (.lst []) F1=some (.lst []) from aF) hF2
 have n13:F1≠F3:=aR (v3 _ _ (v2 _ _ (show upd H0 F1 (.lst []) F1=some (.lst []) from aF))) hF3
 have n23:F2≠F3:=aR (v3 _ _ (show upd (upd H0 F1 (.lst [])) F2 (.lst [.int 0]) F2=some (.lst [.int 0]) from aF)) hF3
 have h1H:H F1=none:=s0.free hF1
 have h2H:H F2=none:=(s0.trans v1).free hF2
 have h3H:H F3=none:=(((s0.trans v1).trans v2).trans v3).free hF3
 have s4:=(((s0.trans v1).trans v2).trans v3).trans v4
 generalize upd (upd (upd (upd H0 F1 (.lst [])) F2 (.lst [.int 0])) pr (.rng 1 (m:Int))) F3 (.lst (((ar (m - 1)).map (· + 1)).map cF))=G at *
 refine ⟨fun k σ' H'=>∃ (us os:List Nat) (es:List (Nat × Nat)) (ys:List V) (x4 x5 x6:Option V),σ'=[some (.ref a),some (.ref F1),some (.ref F2),some (.ref F3),x4,x5,x6]/\Same H H'/\H' F1=some (.lst ys)/\Rows K H' ys (prN (es.map mm))/\H' F2=some (.lst (us.map cF))/\H' F3=some (.lst (os.map cF))/\Gr us es/\(us++os).Perm (ar m)/\(∀ k w,(wts (at2 T) es)[k]?=some w->∀ x∈us.take (k+1),∀ y,y∈us.drop (k+1)\/y∈os->w<=at2 T x y)/\os.length=k,
  ⟨m - 1,[0],(ar (m - 1)).map (· + 1),[],[],none,none,none,rfl,s4,hF1',Rows.nil,hF2',hF3', .one 0,?_,(fun k w z=>by cases z),by simp⟩,?_⟩
 ·obtain ⟨j,rfl⟩:∃ j,m=j+1:=⟨m - 1,by omega⟩
  rw [qz]
  exact List.Perm.refl _
 rintro k σ' H1 ⟨us,os,es,ys,x4,x5,x6,rfl,s1,g1,g2,g3,g4,gr,pm,lw,rfl⟩
 have ltm:∀ x,x∈us\/x∈os->x<m:=fun x hx=>cp.mp (pm.mem_iff.mp (de.mpr hx))
 have lel:=gr.len
 have ltot:us.length+os.length=m:=by rw [<- au,pm.length_eq,cm]
 have nd:=pm.nodup_iff.mpr ju
 rw [rn] at nd
 have emem:∀ e∈es,e.1<m/\e.2<m:=fun e he=>⟨ltm _ (.inl (gr.mem e he).1),ltm _ (.inl (gr.mem e he).2.1)⟩
 refine ⟨_,rfl,!(os.map cF).isEmpty,?_,?_⟩
 ·exact .inl ⟨_, .of g4,rfl⟩
 cases os with
 | nil=>
  refine cL rfl ?_
  rw [lx] at pm
  have mmlt:∀ e∈es.map mm,e.1<m/\e.2<m:=fun e he=>by
   obtain ⟨f,hf,rfl⟩:=cy.mp he
   have:=emem f hf
   exact ⟨by show min f.1 f.2<m;omega,by show max f.1 f.2<m;omega⟩
  refine ⟨_,rfl,_,rfl, .ref a,F1,T,m,ys,es.map mm,rfl,hS.same s1,qT,g1,g2,mmlt,by rw [af];omega,fun H2 s2=>?_⟩
  rw [aEl sy emem]
  refine ⟨_,rfl, .inr ⟨F1,ys,prN (es.map mm),rfl, .inl (.of (s2 _ _ g1)),g2.same s2,aEn,by rw [eO,af];omega,fun zs R' pR srt _ hr' tl htl=>?_⟩⟩
  obtain ⟨L',rfl,pL⟩:=aAd pR
  have s3:=aJ htl (.lst zs)
  refine ⟨show 2<=ba by decide,fun p hp=>?_⟩
  have s4:=aJ hp (.tup [V.int (wts (at2 T) es).sum, .ref tl])
  refine q p tl us es zs L' _ (((s1.trans s2).trans s3).trans s4) ((s1.trans s2).free htl) aF gr (fun k w hk x hx y hy=>lw k w hk x hx y (.inl hy)) pm (s4 _ _ aF) ((hr'.same s3).same s4) pL srt
 | cons o0 os'=>
  refine iI rfl ?_
  have hus:us≠[]:=fun e=>by rw [e] at lel;simp at lel
  generalize hos:o0 :: os'=os at *
  have hone:os≠[]:=by rw [<- hos];simp
  refine ⟨fun σ2 H2=>∃ k',k'<os.length/\∃ (us os:List Nat) (es:List (Nat × Nat)) (ys:List V) (x4 x5 x6:Option V),σ2=[some (.ref a),some (.ref F1),some (.ref F2),some (.ref F3),x4,x5,x6]/\Same H H2/\H2 F1=some (.lst ys)/\Rows K H2 ys (prN (es.map mm))/\H2 F2=some (.lst (us.map cF))/\H2 F3=some (.lst (os.map cF))/\Gr us es/\(us++os).Perm (ar m)/\(∀ k w,(wts (at2 T) es)[k]?=some w->∀ x∈us.take (k+1),∀ y,y∈us.drop (k+1)\/y∈os->w<=at2 T x y)/\os.length=k',fun σ2 H2 h=>h,?_⟩
  refine ⟨_,rfl,F2,rfl, .inl ⟨⟨_, .of g3⟩,fun A hA=>?_⟩⟩
  have key:EmR K [0,1] (jE (Itl K F2) (aL 0) (mW (lD K (aE 2)) (aL 1) (kR [] (eX (gW (aB (tOp (bF K) (tOp (bF K) (aE 3) (aE 0)) (aE 1)) (aB (aE 0) (aB (aE 1) aQ)))) A)))) A [none,none,some (.ref F3),some (.ref a)] (upd H1 A (.lst [])) ((ar (us.map cF).length).flatMap fun i=>(ar (os.map cF).length).flatMap fun j=>[[at2 T (us.getD i 0) (os.getD j 0),((us.getD i 0:Nat):Int),((os.getD j 0:Nat):Int)]]):=by
   refine aCo (a:=F2) (xs:=us.map cF) (by decide) (by show 0<4;decide) (fun H' sx => .of (dH hA sx _ _ g3)) fun i x σ2 H2 hx l2 ag2 e0 sx2=>?_
   have hi:i<us.length:=by have:=(ai.mp hx).1;rwa [af] at this
   have e0:σ2[0]?=some (some (cF (us.getD i 0))):=by
    rw [aJj hi] at hx
    rw [e0,cu hx]
   have t2:σ2[2]?=some (some (.ref F3)):=(ag2 2 (by decide)).trans rfl
   refine EmR.mono (vars:=[1]) (fun D pre R ha' hR hz hd=>⟨_,t2,F3,rfl, .inl ⟨⟨_, .of (dH hA sx2 _ _ g4)⟩,aCo (K:=K) (vars:=[1]) (a:=F3) (xs:=os.map cF) (by decide) (by rw [l2];show 1<4;decide) (fun H' sx => .of (dH hA (sx2.trans sx) _ _ g4)) (fun j y σ3 H3 hy l3 ag3 e1 sx3=>?_) D pre R ha' hR hz hd⟩⟩) (by decide)
   have hj:j<os.length:=by have:=(ai.mp hy).1;rwa [af] at this
   have e1:σ3[1]?=some (some (cF (os.getD j 0))):=by
    rw [aJj hj] at hy
    rw [e1,cu hy]
   have t0:=(ag3 0 (by decide)).trans e0
   have t3:σ3[3]?=some (some (.ref a)):=(ag3 3 (by decide)).trans ((ag2 3 (by decide)).trans rfl)
   refine xU (by show 3<=100;decide) fun R hR=>oA t3 t0 e1 (hS.same (s1.trans (dH hA (sx2.trans sx3)))) qT (ltm _ (.inl ?_)) (ltm _ (.inr ?_)) ⟨_,t0,_,e1,hR⟩
   ·rw [aj,ah hi];exact fb hi
   ·rw [aj,ah hj];exact fb hj
  have memR:∀ row,row∈((ar (us.map cF).length).flatMap fun i=>(ar (os.map cF).length).flatMap fun j=>[[at2 T (us.getD i 0) (os.getD j 0),((us.getD i 0:Nat):Int),((os.getD j 0:Nat):Int)]])↔∃ x∈us,∃ y∈os,row=[at2 T x y,(x:Int),(y:Int)]:=fun row=>by
   rw [af,af,km]
   constructor
   ·rintro ⟨i,hi,h⟩
    obtain ⟨j,hj,h⟩:=km.mp h
    have hi:=cp.mp hi
    have hj:=cp.mp hj
    rw [bq.mp h,aj,ah hi,aj,ah hj]
    exact ⟨_,fb hi,_,fb hj,rfl⟩
   ·rintro ⟨x,hx,y,hy,rfl⟩
    obtain ⟨i,hi,rfl⟩:=mr hx
    obtain ⟨j,hj,rfl⟩:=mr hy
    refine ⟨i,cp.mpr hi,km.mpr ⟨j,cp.mpr hj,?_⟩⟩
    rw [aj,ah hi,aj,ah hj]
    exact bq.mpr rfl
  refine tR (K:=K) [0,1] _ hA ?_ key fun σ2 H2 pre s2 hA2 r2=>?_
  ·have:=dS (fun i=>(ar (os.map cF).length).flatMap fun j=>[[at2 T (us.getD i 0) (os.getD j 0),((us.getD i 0:Nat):Int),((os.getD j 0:Nat):Int)]]) 8 (us.map cF).length fun i _=>by
    have:=dS (fun j=>[[at2 T (us.getD i 0) (os.getD j 0),((us.getD i 0:Nat):Int),((os.getD j 0:Nat):Int)]]) 1 (os.map cF).length fun _ _=>ay _
    rw [af] at this
    rw [af]
    omega
   simp only [af] at this ⊢
   omega
  refine .inr ⟨A,pre,_,rfl, .inl (.of hA2),r2,?_,fun i b row hb hrow hsq hmin=>?_⟩
  ·intro e
   obtain ⟨x,ux,hx⟩:=vf hus
   have:=(memR [at2 T x o0,(x:Int),(o0:Int)]).mpr ⟨x,by rw [hx];simp,o0,by rw [<- hos];simp,rfl⟩
   rw [e] at this
   cases this
  obtain ⟨x,hx,y,hy,rfl⟩:=(memR row).mp (aw hrow)
  have least:∀ x'∈us,∀ y'∈os,at2 T x y<=at2 T x' y':=fun x' hx' y' hy'=>aIa (hmin _ ((memR _).mpr ⟨x',hx',y',hy',rfl⟩))
  refine ⟨b,_,rfl,hsq,rfl, .int (at2 T x y),[cF x,cF y],rfl,cF x,[cF y],rfl,cF y,[],rfl,rfl,?_⟩
  have s12:=s1.trans s2
  have g1':=s2 _ _ g1
  have g3':=s2 _ _ g3
  have g4':=s2 _ _ g4
  refine ⟨_,rfl, .inl ⟨rfl,_, .of g1'⟩,_,rfl,_,rfl,_,_,rfl,?_⟩
  rw [aJn]
  refine ⟨_,rfl,_,rfl,_,_,rfl,?_⟩
  rw [aJu]
  refine ⟨show 2<=ba by decide,fun u hu=>?_⟩
  have mu:=aJ hu (.tup [V.int ((min x y:Nat):Int),V.int ((max x y:Nat):Int)])
  have yl:ys.length=es.length:=by rw [g2.1,eO,af]
  refine ⟨F1,ys,_,rfl,rfl,mu _ _ g1',bc (show ys.length<=9 by omega) (by decide),?_⟩
  have r3:Rows K (upd (upd H2 u (.tup [V.int ((min x y:Nat):Int),V.int ((max x y:Nat):Int)])) F1 (.lst (ys++[.ref u]))) (ys++[.ref u]) (prN ((es++[(x,y)]).map mm)):=by
   rw [cq,yD]
   exact Rows.put (Rows.snoc ((g2.same s2).same mu) (.of aF)) (mu _ _ g1')
  have g1'':(upd (upd H2 u (.tup [V.int ((min x y:Nat):Int),V.int ((max x y:Nat):Int)])) F1 (.lst (ys++[.ref u]))) F1=some (.lst (ys++[.ref u])):=aF
  have g3'':(upd (upd H2 u (.tup [V.int ((min x y:Nat):Int),V.int ((max x y:Nat):Int)])) F1 (.lst (ys++[.ref u]))) F2=some (.lst (us.map cF)):=by rw [aX (jk n12)];exact mu _ _ g3'
  have g4'':(upd (upd H2 u (.tup [V.int ((min x y:Nat):Int),V.int ((max x y:Nat):Int)])) F1 (.lst (ys++[.ref u]))) F3=some (.lst (os.map cF)):=by rw [aX (jk n13)];exact mu _ _ g4'
  have s3:Same H (upd (upd H2 u (.tup [V.int ((min x y:Nat):Int),V.int ((max x y:Nat):Int)])) F1 (.lst (ys++[.ref u]))):=eZ h1H (s12.trans mu)
  generalize upd (upd H2 u (.tup [V.int ((min x y:Nat):Int),V.int ((max x y:Nat):Int)])) F1 (.lst (ys++[.ref u]))=G3 at *
  refine ⟨_,rfl, .inl ⟨rfl,_, .of g3''⟩,_,rfl,F2,_,_,rfl,rfl,g3'',bc (show (us.map cF).length<=9 by rw [af];omega) (by decide),?_⟩
  have r4:Rows K (upd G3 F2 (.lst (us.map cF++[cF y]))) (ys++[.ref u]) (prN ((es++[(x,y)]).map mm)):=Rows.put r3 g3''
  have k1:(upd G3 F2 (.lst (us.map cF++[cF y]))) F1=some (.lst (ys++[.ref u])):=by rw [aX n12];exact g1''
  have k2:(upd G3 F2 (.lst (us.map cF++[cF y]))) F2=some (.lst ((us++[y]).map cF)):=by rw [aF,cq];rfl
  have k3:(upd G3 F2 (.lst (us.map cF++[cF y]))) F3=some (.lst (os.map cF)):=by rw [aX (jk n23)];exact g4''
  have s5:Same H (upd G3 F2 (.lst (us.map cF++[cF y]))):=eZ h2H s3
  generalize upd G3 F2 (.lst (us.map cF++[cF y]))=G4 at *
  obtain ⟨j,hj,ej⟩:=mr hy
  have ndo:=nd.2.1
  refine ⟨_,rfl, .inl ⟨rfl,_, .of k3⟩,_,rfl,F3,os.map (fun p:Nat=>(p:Int)),(y:Int),j,rfl,rfl,by rw [k3,yX],by rw [az,ah hj,ej];rfl,fun r hr e=>?_,?_⟩
  ·rw [az,ah (by omega)] at e
   have e':os[r]'(by omega)=y:=by
    have h2:((os[r]'(by omega):Nat):Int)=(y:Int):=cu e
    omega
   rw [<- ej] at e'
   exact pz.mp (ic.mp ndo) r j (by omega) hj hr e'
  rw [wM,<- yX]
  have hyn:y∉us:=fun h=>nd.2.2 _ h _ hy rfl
  have lwl:(wts (at2 T) es).length=es.length:=by unfold wts;rw [af]
  have pmE:((us++[y])++os.eraseIdx j).Perm (us++os):=by
   have:=aAu (fs:=us) hj
   rw [ej] at this
   exact this
  refine ⟨os.length - 1,by omega,us++[y],os.eraseIdx j,es++[(x,y)],ys++[.ref u],_,_,_,rfl,eZ h3H s5,by rw [aX n13];exact k1,Rows.put r4 k3,by rw [aX n23];exact k2,aF, .more gr hx hyn,pmE.trans pm,fun k w hk x' hx' y' hy'=>?_,by rw [ve hj]⟩
  unfold wts at hk
  rw [cq] at hk
  have ysub:∀ z,z∈os.eraseIdx j->z∈os:=fun z hz=>List.mem_of_mem_eraseIdx hz
  by_cases ck:k<es.length
  ·rw [dk (by rw [af];exact ck)] at hk
   rw [jv (by omega)] at hx'
   refine lw k w hk x' hx' y' ?_
   rw [jw (by omega)] at hy'
   rcases hy' with h | h
   ·rcases de.mp h with h | h
    ·exact .inl h
    ·rw [bq.mp h];exact .inr hy
   ·exact .inr (ysub y' h)
  ·have ek:k=es.length:=by
    have:=(ai.mp hk).1
    rw [au,af,af] at this
    simp at this
    omega
   subst ek
   rw [dw (by rw [af];exact ay _),af,sr] at hk
   obtain rfl:at2 T x y=w:=by simpa using hk
   rw [jv (by omega),jl (by omega)] at hx'
   refine least x' hx' y' ?_
   rcases hy' with h | h
   ·rw [jw (by omega),yf (by omega),ur] at h
    rw [bq.mp h];exact hy
   ·exact ysub y' h
end
section
variable {K:ae}
end
namespace L
def whD:Dt->Bool
 | .int _=>true
 | _=>false
inductive aGF (K : ae) (vs : List V) (H : Hp) (Q : VK) : Prop
 | mk (v : V) (d : Dt) (h0 : vs = [v]) (h1 : Sh K H d v) (h2 : ∀ H', Same H H' -> Q (.bl (whD d)) H') : aGF K vs H Q
def spW (K:ae):Sp:=fun vs H Q _=>aGF K vs H Q
section
variable {K:ae}
theorem rd_whole:∀ vs H Q E,spW K vs H Q E->mH K { nx:=fun _ H'=>Q .non H',rt:=Q } (bW ["thing"] vs) H:=by
 intro vs H Q E h
 obtain ⟨v,d,rfl,hS,q⟩:=h
 have q0:=q H (Same.refl _)
 refine ⟨_,rfl,v,d,"int",rfl,by decide,hS,_,rfl,?_⟩
 by_cases hi:aGY d "int" = true
 ·rw [if_pos hi]
  refine ⟨_,rfl,v,d,"bool",rfl,by decide,hS,_,rfl,?_⟩
  cases d <;> first | exact q0 | (exact absurd hi (by simp [aGY]))
 ·rw [if_neg hi]
  cases d <;> first | exact q0 | (exact absurd (by rfl) hi)
end
end L
section
variable {K:ae}
theorem sh2 {H:Hp}{b:Addr}{i j:Nat}(h:SqT K H b [cF i,cF j]):Sh K H (.tup [.int (i:Int), .int (j:Int)]) (.ref b):=⟨b,_,rfl,h,ShL.ints [(i:Int),(j:Int)]⟩
def aAT (K:ae):Sp:=fun vs H Q _=>∃ (n:Nat) (b:Addr) (i j:Nat),vs=[.int (n:Int), .ref b]/\SqT K H b [cF i,cF j]/\i<j/\j<n/\∀ H',Same H H'->Q (.bl true) H'
theorem aCL {σ:St}{H:Hp}{n i j:Nat}{b:Addr}{Q:VK}(h0:σ[0]?=some (some (.int (n:Int))))(h1:σ[1]?=some (some (.ref b)))(hb:SqT K H b [cF i,cF j])(hij:i<j)(hjn:j<n)(q:Q (.bl true) H) :
  yJ yLe yLt yLt (tC (.int 0)) (tOp (bF K) (aE 1) (tC (.int 0))) (tOp (bF K) (aE 1) (tC (.int 1))) (aE 0) σ H Q:=by
 refine ⟨_,h1,ixT (j:=0) hb rfl ⟨_,_,rfl,rfl,_,rfl,?_⟩⟩
 rw [decide_eq_true (show (0:Int)<=(i:Int) by omega),if_pos rfl]
 refine ⟨_,h1,ixT (j:=1) hb rfl ⟨_,_,rfl,rfl,_,rfl,?_⟩⟩
 rw [decide_eq_true (show (i:Int)<(j:Int) by omega),if_pos rfl]
 refine ⟨_,h0,_,_,rfl,rfl,?_⟩
 rw [decide_eq_true (show (j:Int)<(n:Int) by omega)]
 exact q
theorem aFe:∀ vs H Q E,aAT K vs H Q E->kW K (L.spW K) { nx:=fun _ H'=>Q .non H',rt:=Q } (bW ["many","thing"] vs) H:=by
 intro vs H Q E h
 obtain ⟨n,b,i,j,rfl,hb,hij,hjn,q⟩:=h
 refine ⟨_,rfl, .ref b,_,"tuple",rfl,by decide,sh2 hb,_,rfl,cL rfl ?_⟩
 refine ⟨_,rfl,b,_,rfl, .inr hb, .int 2, .int 2,bh _,rfl,rfl,_,rfl,cL rfl ?_⟩
 refine ⟨_,rfl,ixT (j:=0) hb rfl ⟨cF i, .int (i:Int),rfl,rfl,fun H1 s1=>⟨_,rfl,cL rfl ?_⟩⟩⟩
 refine ⟨_,rfl,ixT (j:=1) (s1.tup hb) rfl ⟨cF j, .int (j:Int),rfl,rfl,fun H2 s2=>⟨_,rfl,cL rfl ?_⟩⟩⟩
 exact aCL rfl rfl ((s1.trans s2).tup hb) hij hjn (q H2 (s1.trans s2))
theorem mL:∀ R:List (List Int),eqD (.lst (R.map fun r=>Dt.tup (r.map Dt.int))) (.lst (R.map fun r=>Dt.tup (r.map Dt.int)))=true:=by
 have e1:∀ r:List Int,eqL (r.map Dt.int) (r.map Dt.int)=true:=by
  intro r
  induction r with
  | nil=>rfl
  | cons x r ih=>simp [eqL,eqD,ih]
 intro R
 rw [eqD]
 induction R with
 | nil=>rfl
 | cons r R ih=>simp [eqL,eqD,ih,e1]
theorem zI:∀ R:List (List Int),dep (.lst (R.map fun r=>Dt.tup (r.map Dt.int)))<=100:=by
 have e1:∀ r:List Int,wZ (r.map Dt.int)=0:=by
  intro r
  induction r with
  | nil=>rfl
  | cons x r ih=>simp [wZ,dep,ih]
 intro R
 have:wZ (R.map fun r=>Dt.tup (r.map Dt.int))<=1:=by
  induction R with
  | nil=>exact bh _
  | cons r R ih=>
   rw [df,wZ,dep,e1]
   omega
 rw [dep]
 omega
theorem pS {R R':List (List Int)}(h:R'.Perm R)(a:R.Pairwise fun a b=>fO b a=false)(b:R'.Pairwise fun a b=>fO b a=false):R'=R:=h.eq_of_pairwise (fun x y _ _ p q=>pH q p) b a
end
end K32
namespace K32
open PySem L2
def nx (es:List (Nat × Nat)) (a b:Nat):Prop:=(a,b)∈es\/(b,a)∈es
theorem Gr.all {us:List Nat}{es:List (Nat × Nat)}(g:Gr us es){P:Nat->Prop}(h:∀ e∈es,P e.1↔P e.2):∀ x∈us,∀ y∈us,P x->P y:=by
 have key:∃ a∈us,∀ x∈us,P x↔P a:=by
  induction g with
  | one a=>exact ⟨a,by simp,fun x hx=>by rw [bq.mp hx]⟩
  | @more vs es x c g hx hc ih=>
   obtain ⟨a,ha,q⟩:=ih fun e he=>h e (d5 _ he)
   refine ⟨a,d5 _ ha,fun y hy=>?_⟩
   rcases de.mp hy with hy | hy
   ·exact q y hy
   ·rw [bq.mp hy,<- q x hx]
    exact (h (x,c) (by simp)).symm
 obtain ⟨a,ha,q⟩:=key
 exact fun x hx y hy p=>(q y hy).mpr ((q x hx).mp p)
theorem lS:∀ (n:Nat) (l:List Nat),l.Nodup->(∀ x∈l,x<n)->l.length<=n
 | 0,l,_,h=>by
  cases l with
  | nil=>exact ay _
  | cons a l=>exact absurd (h a (by simp)) (mh _)
 | n+1,l,nd,h=>by
  have a:=lS n (l.erase n) (nd.erase n) fun x hx=>by
   obtain ⟨a,b⟩:=(nd.mem_erase_iff).mp hx
   have:=h x b
   omega
  have b:=List.length_erase (a:=n) (l:=l)
  split at b <;> omega
theorem aIT {es:List (Nat × Nat)}{e:Nat × Nat}(h:e∈es.map mm):nx es e.1 e.2:=by
 obtain ⟨f,hf,rfl⟩:=cy.mp h
 obtain ⟨a,b⟩:=f
 show nx es (min a b) (max a b)
 rcases sv a b with c | c
 ·rw [ka c,qa c];exact .inl hf
 ·rw [qb c,qv c];exact .inr hf
abbrev Fd:=List (Nat × Option Nat)
def ks (f:Fd):List Nat:=f.map Prod.fst
def half (f:Fd) (a b:Nat):Fd:=if a∈ks f/\b∉ks f then f++[(b,some a)] else f
def pK (f:Fd) (e:Nat × Nat):Fd:=half (half f e.1 e.2) e.2 e.1
def oJ (L:List (Nat × Nat)) (f:Fd):Fd:=L.foldl pK f
def tT (L:List (Nat × Nat)) (s:Nat):Nat->Fd
 | 0=>[(s,none)]
 | t+1=>oJ L (tT L s t)
structure AH (es:List (Nat × Nat))(n s:Nat)(f:Fd):Prop where
 head:f[0]?=some (s,none)
 nd:(ks f).Nodup
 par:∀ (k x p:Nat),f[k]?=some (x,some p)->(∃ (k':Nat) (o:Option Nat),k'<k/\f[k']?=some (p,o))/\nx es x p
 root:∀ (k x:Nat),f[k]?=some (x,none)->k=0
 lt:∀ x∈ks f,x<n
section
variable {es L:List (Nat × Nat)}{n s:Nat}{f:Fd}
theorem aEG {x:Nat}:x∈ks f↔∃ (k:Nat) (o:Option Nat),f[k]?=some (x,o):=by
 unfold ks
 rw [cy]
 constructor
 ·rintro ⟨⟨a,o⟩,h,rfl⟩
  obtain ⟨k,hk⟩:=gi.mp h
  exact ⟨k,o,hk⟩
 ·rintro ⟨k,o,h⟩
  exact ⟨_,aw h,rfl⟩
theorem AH.snoc (h:AH es n s f){a b:Nat}(ha:a∈ks f)(hb:b∉ks f)(he:nx es b a)(hn:b<n):AH es n s (f++[(b,some a)]):=by
 have f0:0<f.length:=(ai.mp h.head).1
 have new:∀ {k:Nat} {q:Nat × Option Nat},(f++[(b,some a)])[k]?=some q->f[k]?=some q\/(k=f.length/\q=(b,some a)):=fun {k q} e=>by
  by_cases hk:k<f.length
  ·rw [dk hk] at e;exact .inl e
  ·have:=(ai.mp e).1
   rw [au,jq] at this
   have hk':k=f.length:=by omega
   subst hk'
   rw [dw (ay _),sr] at e
   exact .inr ⟨rfl,(cu e).symm⟩
 have old:∀ {k:Nat} {q:Nat × Option Nat},f[k]?=some q->(f++[(b,some a)])[k]?=some q:=fun {k q} e=>by
  rw [dk (ai.mp e).1];exact e
 refine ⟨old h.head,?_,fun k x p e=>?_,fun k x e=>?_,fun x hx=>?_⟩
 ·unfold ks
  rw [cq]
  exact rn.mpr ⟨h.nd,by simp,fun x hx y hy=>by
   rw [show y=b by simpa using hy]
   intro e
   exact hb (e ▸ hx)⟩
 ·rcases new e with e | ⟨ek,e5⟩
  ·obtain ⟨⟨k',o,hk',e'⟩,q⟩:=h.par k x p e
   exact ⟨⟨k',o,hk',old e'⟩,q⟩
  ·cases e5
   subst ek
   obtain ⟨k',o,e'⟩:=aEG.mp ha
   exact ⟨⟨k',o,(ai.mp e').1,old e'⟩,he⟩
 ·rcases new e with e | ⟨_,e5⟩
  ·exact h.root k x e
  ·cases e5
 ·unfold ks at hx
  rw [cq] at hx
  rcases de.mp hx with hx | hx
  ·exact h.lt x hx
  ·rw [show x=b by simpa using hx];exact hn
theorem AH.half (h:AH es n s f){a b:Nat}(he:nx es b a)(hb:b<n):AH es n s (half f a b):=by
 unfold K32.half
 split
 ·rename_i c;exact h.snoc c.1 c.2 he hb
 ·exact h
theorem AH.step (h:AH es n s f){e:Nat × Nat}(he:nx es e.1 e.2)(h1:e.1<n)(h2:e.2<n):AH es n s (pK f e):=(h.half he.symm h2).half he h1
theorem AH.pass (h:AH es n s f):∀ {M:List (Nat × Nat)},(∀ e∈M,nx es e.1 e.2/\e.1<n/\e.2<n)->AH es n s (oJ M f):=by
 intro M
 induction M generalizing f with
 | nil=>intro _;exact h
 | cons e M ih=>
  intro hM
  obtain ⟨a,b,c⟩:=hM e (by simp)
  exact ih (h.step a b c) fun x hx=>hM x (av _ hx)
theorem AH.init (hs:s<n):AH es n s [(s,none)]:=by
 refine ⟨rfl,by simp [ks],fun k x p e=>?_,fun k x e=>?_,fun x hx=>?_⟩
 ·cases k with
  | zero=>cases e
  | succ k=>cases e
 ·cases k with
  | zero=>rfl
  | succ k=>cases e
 ·rw [show x=s by simpa [ks] using hx];exact hs
theorem AH.run (hs:s<n)(hL:∀ e∈L,nx es e.1 e.2/\e.1<n/\e.2<n):∀ t,AH es n s (tT L s t)
 | 0=>AH.init hs
 | t+1=>(AH.run hs hL t).pass hL
theorem pF (f:Fd)(a b:Nat):f.length<=(half f a b).length/\((half f a b).length=f.length->half f a b=f):=by
 unfold half
 split
 ·rw [au,jq];exact ⟨by omega,fun h=>by omega⟩
 ·exact ⟨ay _,fun _=>rfl⟩
theorem aDc (f:Fd)(e:Nat × Nat):f.length<=(pK f e).length/\((pK f e).length=f.length->pK f e=f):=by
 unfold pK
 have a:=pF f e.1 e.2
 have b:=pF (half f e.1 e.2) e.2 e.1
 refine ⟨by omega,fun h=>?_⟩
 rw [b.2 (by omega),a.2 (by omega)]
theorem yY:∀ (M:List (Nat × Nat)) (f:Fd),f.length<=(oJ M f).length/\((oJ M f).length=f.length->∀ e∈M,pK f e=f)
 | [],f=>⟨ay _,fun _ e he=>by cases he⟩
 | e :: M,f=>by
  have a:=aDc f e
  have b:=yY M (pK f e)
  have ee:oJ (e :: M) f=oJ M (pK f e):=rfl
  rw [ee]
  refine ⟨by omega,fun h=>?_⟩
  have e1:=a.2 (by omega)
  have b':=b.2 (by omega)
  rw [e1] at b'
  intro x hx
  rcases bj.mp hx with rfl | hx
  ·exact e1
  ·exact b' x hx
theorem aCW {e:Nat × Nat}(h:pK f e=f):e.1∈ks f↔e.2∈ks f:=by
 have a:=pF f e.1 e.2
 have b:=pF (half f e.1 e.2) e.2 e.1
 have hl:(half (half f e.1 e.2) e.2 e.1).length=f.length:=by rw [show half (half f e.1 e.2) e.2 e.1=f from h]
 have e1:=a.2 (by omega)
 have e2:=b.2 (by omega)
 rw [e1] at e2
 unfold half at e1 e2
 constructor
 ·intro h1
  apply dz
  intro h2
  rw [if_pos ⟨h1,h2⟩] at e1
  have:=congrArg Ba e1
  simp at this
 ·intro h1
  apply dz
  intro h2
  rw [if_pos ⟨h1,h2⟩] at e2
  have:=congrArg Ba e2
  simp at this
theorem AH.len_le (h:AH es n s f):f.length<=n:=by
 have:=lS n (ks f) h.nd h.lt
 unfold ks at this
 rwa [af] at this
theorem aAX {us:List Nat}(g:Gr us es)(pu:us.Perm (ar n))(hL:∀ e∈L,nx es e.1 e.2/\e.1<n/\e.2<n)(hes:∀ e∈es,mm e∈L)(hs:s<n):∀ t,t<n->t+1<=(tT L s t).length
 | 0,_=>ay _
 | t+1,ht=>by
  have ih:=aAX g pu hL hes hs t (by omega)
  have A:=AH.run hs hL t
  have p:=yY L (tT L s t)
  show t+1+1<=(oJ L (tT L s t)).length
  apply dz
  intro c
  have hq:=p.2 (by omega)
  have cl:∀ e∈es,e.1∈ks (tT L s t)↔e.2∈ks (tT L s t):=fun e he=>by
   have:=aCW (hq _ (hes e he))
   obtain ⟨a,b⟩:=e
   rcases sv a b with c | c
   ·have e1:mm (a,b)=(a,b):=by unfold mm;simp [ka c,qa c]
    rw [e1] at this;exact this
   ·have e1:mm (a,b)=(b,a):=by unfold mm;simp [qb c,qv c]
    rw [e1] at this;exact this.symm
  have us_of:∀ x,x<n->x∈us:=fun x hx=>pu.mem_iff.mpr (cp.mpr hx)
  have all:∀ x,x<n->x∈ks (tT L s t):=fun x hx=>g.all cl s (us_of s hs) x (us_of x hx) (aEG.mpr ⟨0,none,A.head⟩)
  have pm:(ar n).Perm (ks (tT L s t)):=(kg ju A.nd).mpr fun x=>⟨fun h=>all x (cp.mp h),fun h=>cp.mpr (A.lt x h)⟩
  have:=pm.length_eq
  unfold ks at this
  rw [cm,af] at this
  omega
theorem aFH {us:List Nat}(g:Gr us es)(pu:us.Perm (ar n))(hL:∀ e∈L,nx es e.1 e.2/\e.1<n/\e.2<n)(hes:∀ e∈es,mm e∈L)(hs:s<n)(hl:L.length+1=n):(tT L s L.length).length=n:=by
 have a:=aAX g pu hL hes hs L.length (by omega)
 have b:=(AH.run hs hL L.length).len_le
 omega
end
structure Tr (n:Nat)(us:List Nat)(es L:List (Nat × Nat)):Prop where
 gr:Gr us es
 pu:us.Perm (ar n)
 pL:L.Perm (es.map mm)
 srt:(prN L).Pairwise (fun a b=>fO b a=false)
section
variable {K:ae}{n:Nat}{us:List Nat}{es L:List (Nat × Nat)}
theorem Tr.es_lt (t:Tr n us es L):∀ e∈es,e.1<n/\e.2<n/\e.1≠e.2:=fun e he=>by
 obtain ⟨a,b,c⟩:=t.gr.mem e he
 exact ⟨cp.mp (t.pu.mem_iff.mp a),cp.mp (t.pu.mem_iff.mp b),c⟩
theorem Tr.L_lt (t:Tr n us es L):∀ e∈L,e.1<e.2/\e.2<n:=fun e he=>by
 obtain ⟨f,hf,rfl⟩:=cy.mp (t.pL.mem_iff.mp he)
 obtain ⟨a,b,c⟩:=t.es_lt f hf
 show min f.1 f.2<max f.1 f.2/\max f.1 f.2<n
 omega
theorem Tr.len (t:Tr n us es L):L.length+1=n:=by
 have:=t.gr.len
 rw [t.pu.length_eq,cm] at this
 rw [t.pL.length_eq,af]
 omega
theorem Tr.nx (t:Tr n us es L):∀ e∈L,nx es e.1 e.2/\e.1<n/\e.2<n:=fun e he=>by
 have:=t.L_lt e he
 exact ⟨aIT (t.pL.mem_iff.mp he),by omega,this.2⟩
theorem Tr.back (t:Tr n us es L):∀ e∈es,mm e∈L:=fun e he=>t.pL.mem_iff.mpr (qe he)
def aHX (K:ae):Sp:=fun vs H Q _=>∃ (n:Nat) (t:Addr) (us:List Nat) (es L:List (Nat × Nat)) (ys:List V),vs=[.int (n:Int), .ref t]/\H t=some (.lst ys)/\Rows K H ys (prN L)/\Tr n us es L/\1<=n/\n<=8/\∀ H',Same H H'->Q (.bl true) H'
end
section
variable {K:ae}
theorem aHl {H H':Hp}{v:V}{p:Addr}{T:List (List Int)}{ys:List V}(h:Sh K H (lH T) v)(hp:H p=some (.lst ys))(sx:SameX p H H'):Sh K H' (lH T) v:=by
 obtain ⟨a,rs,rfl,ha,hl,g⟩:=h.tab
 exact ⟨a,rs,rfl,wX ha hp sx,ShL.of_rows hl fun i row e=>by
  obtain ⟨b,e1,e2⟩:=g i row e
  exact ⟨b,e1,wX e2 hp sx⟩⟩
theorem Pen.tab {H H':Hp}{v:V}{p l:Addr}{ns:List Int}{T:List (List Int)}(h:Sh K H (lH T) v)(hp:Pen H p l ns)(sx:SameX p H H'):Sh K H' (lH T) v:=by
 obtain ⟨k,z,e,_⟩:=hp
 exact aHl h e sx
theorem aDb {H:Hp}{rs:List V}{T:List (List Int)}{i:Nat}{b:Addr}{row:List Int}(h:Rows K H rs T)(hb:SqT K H b (row.map V.int)):Rows K H (rs.set i (.ref b)) (T.set i row):=by
 refine ⟨by rw [d8,d8];exact h.1,fun j r e=>?_⟩
 rw [List.getElem?_set] at e
 rw [List.getElem?_set]
 split at e
 ·rename_i hj
  split at e
  ·rename_i hl
   rw [if_pos hj,if_pos (by rw [h.1];exact hl)]
   cases e
   exact ⟨b,rfl,hb⟩
  ·cases e
 ·rename_i hj
  rw [if_neg hj]
  exact h.2 j r e
theorem aDM {T:List (List Int)}{n i j:Nat}(hi:i<n)(hj:j<n)(hij:i≠j)(h:at2 T i j≠at2 T j i):(gZ T n).all id=false:=by
 cases hq:(gZ T n).all id with
 | false=>rfl
 | true=>
  exfalso
  have key:∀ a b,a<n->b<a->at2 T a b=at2 T b a:=fun a b ha hb=>by
   have:=fg.mp hq (at2 T a b == at2 T b a) (by
    unfold gZ
    exact km.mpr ⟨a,cp.mpr ha,km.mpr ⟨b,cp.mpr hb,by simp⟩⟩)
   simpa using this
  rcases Nat.lt_or_gt_of_ne hij with c | c
  ·exact h (key j i hj c).symm
  ·exact h (key i j hi c)
theorem aCF {i r n:Nat}(hi:i<n)(hr:r<n - 1):∃ j:Nat,((i:Int)+1+(r:Int)) % (n:Int)=(j:Int)/\j<n/\i≠j:=by
 refine ⟨(i+1+r) % n,by rw [Int.natCast_emod];congr 1,AN _ (by omega),?_⟩
 by_cases c:i+1+r<n
 ·rw [Nat.mod_eq_of_lt c];omega
 ·rw [Nat.mod_eq_sub_mod (by omega),Nat.mod_eq_of_lt (by omega)];omega
def aHN (K:ae):Sp:=fun vs H Q _=>∃ (p l:Addr) (ns:List Int) (v:V) (T:List (List Int)) (n:Nat),vs=[.ref p,v]/\Pen H p l ns/\Sh K H (lH T) v/\Quad T n/\Sy T n/\2<=n/\n<=8 /\
 ∀ T' v' H',Quad T' n->(gZ T' n).all id=false->Sh K H' (lH T') v'->Pen H' p l ns->SameX p H H'->Q v' H'
theorem aJd:∀ vs H Q E,aHN K vs H Q E->kY K eK { nx:=fun _ H'=>Q .non H',rt:=Q } (bW ["feed","table","i","j","number","row"] vs) H:=by
 intro vs H Q E h
 obtain ⟨p,l,ns,v,T,n,rfl,hP,hS,qT,sy,n2,n8,q⟩:=h
 obtain ⟨a,rs,rfl,ha,hrl,hrow⟩:=id hS.tab
 have hrl:rs.length=n:=hrl.trans qT.len
 refine ⟨_,rfl,_,rfl,a,rs,rfl, .inr ha,p,l,ns,n,by rw [hrl];rfl,hP,by omega,bc n8 (by decide),fun i H1 hi hP1 sx1=>?_⟩
 have hS1:=hP.tab hS sx1
 have ha1:SqT K H1 a rs:=by obtain ⟨k,z,e,_⟩:=hP;exact wX ha e sx1
 refine ⟨_,rfl,_,rfl,_,rfl,a,rs,rfl, .inr ha1,_,_,rfl,rfl,p,l,ns,n - 1,by rw [hrl];show [V.ref p,V.int ((n:Int) - 1)]=_;rw [show ((n - 1:Nat):Int)=(n:Int) - 1 by omega],hP1,by omega,bc (show n - 1<=8 by omega) (by decide),fun r H2 hr hP2 sx2=>?_⟩
 have hS2:=hP1.tab hS1 sx2
 have ha2:SqT K H2 a rs:=by obtain ⟨k,z,e,_⟩:=hP1;exact wX ha1 e sx2
 obtain ⟨j,ej,hj,hij⟩:=aCF hi hr
 refine ⟨_,rfl,a,rs,rfl, .inr ha2,_,_,rfl,rfl,by rw [hrl];show (0:Int)<(n:Int);omega,?_⟩
 show aP _ _ _ ([some (.ref p),some (.ref a),some (.int (i:Int)),some (.int (((i:Int)+1+(r:Int)) % (rs.length:Int))),none,none]:St) H2
 rw [hrl,ej]
 refine oA (t:=1) (si:=2) (sj:=3) rfl rfl rfl hS2 qT hi hj ?_
 refine oA (t:=1) (si:=2) (sj:=3) rfl rfl rfl hS2 qT hi hj ?_
 refine ⟨10,6,rfl,rfl,⟨by decide,by decide,by decide⟩, .int (at2 T i j), .int ((10:Int) ^ (6:Int).toNat),bh _,rfl,rfl, .inr ⟨_,rfl, .inl (.inl ⟨by decide,by decide⟩),_,_,rfl,rfl,?_⟩⟩
 obtain ⟨w,ew,hw⟩:∃ w:Int,at2 T i j+1 - 2*(if eqD (.int (at2 T i j)) (.int ((10:Int) ^ (6:Int).toNat)) then 1 else 0)=w/\w≠at2 T i j:=⟨_,rfl,by split <;> omega⟩
 show aP _ _ _ ([some (.ref p),some (.ref a),some (.int (i:Int)),some (.int (j:Int)),some (.int (at2 T i j+1 - 2*(if eqD (.int (at2 T i j)) (.int ((10:Int) ^ (6:Int).toNat)) then 1 else 0))),none]:St) H2
 rw [ew]
 obtain ⟨row,r1,r2,r3⟩:=qT.get hi
 obtain ⟨a',rs',ea',ha',hrows⟩:=Sh.rowsT hS2
 cases ea'
 have hrn:rs'.length=n:=by rw [hrows.1,qT.len]
 obtain ⟨rb,e1,e2⟩:=hrows.2 i row r1
 show tOp (bQ K) (tOp (bQ K) (tSl (uX K) (tOp (bF K) (aE 1) (aE 2)) dF (jC (aE 3))) (gW (aB (aE 4) aQ))) (tSl (uX K) (tOp (bF K) (aE 1) (aE 2)) (jC (tOp (bQ K) (aE 3) (tC (.int 1)))) dF) ([some (.ref p),some (.ref a),some (.int (i:Int)),some (.int (j:Int)),some (.int w),none]:St) H2 _
 refine aBt (p:=rb) (xs:=row.map V.int) (i:=j) (v := .int w) e2 (by rw [af];omega) (by rw [af];omega)
  (fun H' sm R hR=>⟨_,rfl,_,rfl,ixT (sm.tup ha') e1 hR⟩) (fun H' R hR=>⟨_,rfl,hR⟩) (fun H' R hR=>⟨_,rfl,hR⟩) (fun H' sm R hR=>⟨_,rfl,_,rfl,ixT (sm.tup ha') e1 hR⟩) (fun H' R hR=>⟨_,rfl,hR⟩) fun ln H3 s3 hln=>?_
 show tOp (bQ K) (tOp (bQ K) (tSl (uX K) (aE 1) dF (jC (aE 2))) (gW (aB (aE 5) aQ))) (tSl (uX K) (aE 1) (jC (tOp (bQ K) (aE 2) (tC (.int 1)))) dF) ([some (.ref p),some (.ref a),some (.int (i:Int)),some (.int (j:Int)),some (.int w),some (.ref ln)]:St) H3 _
 refine aBt (p:=a) (xs:=rs') (i:=i) (v := .ref ln) (s3.tup ha') (by omega) (by omega)
  (fun H' sm R hR=>⟨_,rfl,hR⟩) (fun H' R hR=>⟨_,rfl,hR⟩) (fun H' R hR=>⟨_,rfl,hR⟩) (fun H' sm R hR=>⟨_,rfl,hR⟩) (fun H' R hR=>⟨_,rfl,hR⟩) fun nt H4 s4 hnt=>?_
 have hF:Sh K H4 (lH (uW T i j w)) (.ref nt):=by
  unfold uW
  rw [r3]
  refine aHe hnt (aDb (hrows.same (s3.trans s4)) ?_)
  rw [List.map_set]
  exact s4.tup hln
 refine q _ _ H4 (jT qT hi) (aDM hi hj hij ?_) hF ((hP2.x s3).x s4) (((sx1.trans sx2).trans s3.x).trans s4.x)
 rw [mX qT hi hj,mX qT hi hj,if_pos ⟨rfl,rfl⟩,if_neg (fun h=>hij h.2),sy j i hj hi]
 exact hw
end
structure Kx (K:ae)(C_NoBack C_NoRow C_NoTable C_NoText C_NotEven C_NotStraight C_RoundError C_TooFew C_TooMany:Addr):Prop where
 xE:aEK K C_NotEven
 hE:pq K (.ref C_NotEven) (.ref C_RoundError)=some true
 oE:sd K (.ref C_NotEven) [.ref C_NoBack, .ref C_NoRow, .ref C_NoTable, .ref C_NoText]=some false
 vE:e9 K (.ref C_NotEven) (.type "ValueError")=some true
 eE:e9 K (.ref C_NotEven) (.ref C_NotEven)=some true
 sE:e9 K (.ref C_NotEven) (.ref C_NotStraight)=some false
 fE:e9 K (.ref C_NotEven) (.ref C_TooFew)=some false
 mE:e9 K (.ref C_NotEven) (.ref C_TooMany)=some false
 xF:aEK K C_TooFew
 hF:pq K (.ref C_TooFew) (.ref C_RoundError)=some true
 oF:sd K (.ref C_TooFew) [.ref C_NoBack, .ref C_NoRow, .ref C_NoTable, .ref C_NoText]=some false
 vF:e9 K (.ref C_TooFew) (.type "ValueError")=some true
 eF:e9 K (.ref C_TooFew) (.ref C_NotEven)=some false
 sF:e9 K (.ref C_TooFew) (.ref C_NotStraight)=some false
 fF:e9 K (.ref C_TooFew) (.ref C_TooFew)=some true
 mF:e9 K (.ref C_TooFew) (.ref C_TooMany)=some false
section
variable {K:ae}{C_NoBack C_NoRow C_NoTable C_NoText C_NotEven C_NotStraight C_RoundError C_TooFew C_TooMany:Addr}
def aFz (K:ae) (C_NoBack C_NoRow C_NoTable C_NoText C_NotEven C_NotStraight C_TooFew C_TooMany:Addr):TS:=(aP (eD (bZ (tOp aIj (aE 1) (tC .non))) (aP (fB (tC (.str ""))) aK) aK) (aP (bU (oR (aB (tCB (yZ K) (aB (aE 1) (aB (tC (.ref C_NotEven)) aQ))) (aB (tCB (yZ K) (aB (aE 1) (aB (tC (.ref C_NotStraight)) aQ))) aQ))) (aL 2)) (aP (bU (tOp (bQ K) (aE 2) (oR (aB (tCB (yZ K) (aB (aE 1) (aB (tC (.ref C_TooFew)) aQ))) (aB (tCB (yZ K) (aB (aE 1) (aB (tC (.ref C_TooMany)) aQ))) aQ)))) (aL 2)) (aP (bU (tCB (yZ K) (aB (aE 1) (aB (gW (aB (tC (.ref C_NoBack)) (aB (tC (.ref C_NoRow)) (aB (tC (.ref C_NoTable)) (aB (tC (.ref C_NoText)) aQ))))) aQ))) (aL 3)) (aP (eD (tOr (bZ (tOp (xH K) (tBM K "list" aIv (aE 2) (aB (tC (.bl true)) aQ)) (tC (.int 1)))) (tOr (aHV K (aE 3)) (uF (tB (tCB (yZ K) (aB (aE 1) (aB (tC (.ty "ValueError")) aQ))))))) (aP (fB (tC (.str "odd"))) aK) aK) (aP (fB (tOp (bF K) (oR (aB (tC (.str "even")) (aB (tC (.str "straight")) (aB (tC (.str "few")) (aB (tC (.str "many")) aQ))))) (tBM K "list" aJc (aE 2) (aB (tC (.bl true)) aQ)))) aK))))))
theorem aDY {e:Addr}{x0 x2 x3:Option V}{H1:Hp}{Q:VK}{D:mJ}(hD:D.rt=Q)(k:Kx K C_NoBack C_NoRow C_NoTable C_NoText C_NotEven C_NotStraight C_RoundError C_TooFew C_TooMany)(he:H1 e=none)
  (q:∀ H',Same H1 H'->Q (.str "even") H'):aFz K C_NoBack C_NoRow C_NoTable C_NoText C_NotEven C_NotStraight C_TooFew C_TooMany D [x0,some (.ref e),x2,x3,none] (upd H1 e (rY e C_NotEven)):=by
 subst hD
 have h0:∀ H',Same (upd H1 e (rY e C_NotEven)) H'->H' e=some (rY e C_NotEven):=fun H' s=>s _ _ aF
 have s1:=aJ he (rY e C_NotEven)
 have r0:=Same.refl (upd H1 e (rY e C_NotEven))
 refine ⟨_,rfl, .inr ⟨rfl,_,rfl,cL (by simp) ?_⟩⟩
 refine ⟨_,rfl,e,_,_,true,rfl,h0 _ r0,k.xE, .inr (.inl ⟨_,rfl,k.eE⟩),⟨_,rfl,e,_,_,false,rfl,h0 _ r0,k.xE, .inr (.inl ⟨_,rfl,k.sE⟩),⟨show 2<=ba by decide,fun F1 hF1=>?_⟩⟩⟩
 have m1:=aJ hF1 (.lst [V.bl true, .bl false])
 have t1:=r0.trans m1
 refine ⟨_,rfl,_,rfl,e,_,_,false,rfl,h0 _ t1,k.xE, .inr (.inl ⟨_,rfl,k.fE⟩),⟨_,rfl,e,_,_,false,rfl,h0 _ t1,k.xE, .inr (.inl ⟨_,rfl,k.mE⟩),⟨show 2<=ba by decide,fun F2 hF2=>?_⟩⟩⟩
 have m2:=aJ hF2 (.lst [V.bl false, .bl false])
 have t2:=t1.trans m2
 refine .inl ⟨F1,F2,_,_,rfl,rfl,m2 _ _ aF,aF,show 4<=ba by decide,fun G hG=>?_⟩
 have m3:=aJ hG (.lst [V.bl true, .bl false, .bl false, .bl false])
 have t3:=t2.trans m3
 have hG3:(upd (upd (upd (upd H1 e (rY e C_NotEven)) F1 (.lst [V.bl true, .bl false])) F2 (.lst [V.bl false, .bl false])) G (.lst [V.bl true, .bl false, .bl false, .bl false])) G=some (.lst [V.bl true, .bl false, .bl false, .bl false]):=aF
 show aP _ _ _ ([x0,some (.ref e),some (.ref G),x3,none]:St) (upd (upd (upd (upd H1 e (rY e C_NotEven)) F1 (.lst [V.bl true, .bl false])) F2 (.lst [V.bl false, .bl false])) G (.lst [V.bl true, .bl false, .bl false, .bl false]))
 generalize upd (upd (upd (upd H1 e (rY e C_NotEven)) F1 (.lst [V.bl true, .bl false])) F2 (.lst [V.bl false, .bl false])) G (.lst [V.bl true, .bl false, .bl false, .bl false])=H3 at *
 refine ⟨_,rfl,show 4<=ba by decide,fun tp htp=>?_⟩
 have m4:=aJ htp (.tup [V.ref C_NoBack, .ref C_NoRow, .ref C_NoTable, .ref C_NoText])
 have t4:=t3.trans m4
 refine ⟨e,_, .ref tp,false,rfl,h0 _ t4,k.xE, .inr (.inr ⟨tp,[C_NoBack,C_NoRow,C_NoTable,C_NoText],rfl,aF,k.oE⟩),?_⟩
 have hG4:=m4 _ _ hG3
 refine ⟨_,rfl, .inl ⟨rfl,_, .of hG4⟩,G,_, .bl true,rfl,rfl,hG4,rfl,rfl, .int _, .int 1,bh _,rfl,rfl,_,rfl,cL rfl ?_⟩
 refine ⟨_,rfl,false,rfl,cL rfl ?_⟩
 refine ⟨_,rfl,e,_,_,true,rfl,h0 _ t4,k.xE, .inl ⟨_,rfl,k.vE⟩,_,rfl,cL rfl ?_⟩
 refine ⟨show 4<=ba by decide,fun W hW=>?_⟩
 have m5:=aJ hW (.lst [V.str "even", .str "straight", .str "few", .str "many"])
 have hG5:=m5 _ _ hG4
 refine ⟨_,rfl, .inl ⟨rfl,_, .of hG5⟩,G,_, .bl true,0,rfl,rfl,hG5,rfl,rfl,⟨_,rfl,rfl⟩,(fun m z hm=>absurd hm (mh _)),?_⟩
 exact ixL (j:=0) (.of aF) rfl (q _ (s1.trans (t4.trans m5)))
theorem aDK {e:Addr}{x0 x2 x3:Option V}{H1:Hp}{Q:VK}{D:mJ}(hD:D.rt=Q)(k:Kx K C_NoBack C_NoRow C_NoTable C_NoText C_NotEven C_NotStraight C_RoundError C_TooFew C_TooMany)(he:H1 e=none)
  (q:∀ H',Same H1 H'->Q (.str "few") H'):aFz K C_NoBack C_NoRow C_NoTable C_NoText C_NotEven C_NotStraight C_TooFew C_TooMany D [x0,some (.ref e),x2,x3,none] (upd H1 e (rY e C_TooFew)):=by
 subst hD
 have h0:∀ H',Same (upd H1 e (rY e C_TooFew)) H'->H' e=some (rY e C_TooFew):=fun H' s=>s _ _ aF
 have s1:=aJ he (rY e C_TooFew)
 have r0:=Same.refl (upd H1 e (rY e C_TooFew))
 refine ⟨_,rfl, .inr ⟨rfl,_,rfl,cL (by simp) ?_⟩⟩
 refine ⟨_,rfl,e,_,_,false,rfl,h0 _ r0,k.xF, .inr (.inl ⟨_,rfl,k.eF⟩),⟨_,rfl,e,_,_,false,rfl,h0 _ r0,k.xF, .inr (.inl ⟨_,rfl,k.sF⟩),⟨show 2<=ba by decide,fun F1 hF1=>?_⟩⟩⟩
 have m1:=aJ hF1 (.lst [V.bl false, .bl false])
 have t1:=r0.trans m1
 refine ⟨_,rfl,_,rfl,e,_,_,true,rfl,h0 _ t1,k.xF, .inr (.inl ⟨_,rfl,k.fF⟩),⟨_,rfl,e,_,_,false,rfl,h0 _ t1,k.xF, .inr (.inl ⟨_,rfl,k.mF⟩),⟨show 2<=ba by decide,fun F2 hF2=>?_⟩⟩⟩
 have m2:=aJ hF2 (.lst [V.bl true, .bl false])
 have t2:=t1.trans m2
 refine .inl ⟨F1,F2,_,_,rfl,rfl,m2 _ _ aF,aF,show 4<=ba by decide,fun G hG=>?_⟩
 have m3:=aJ hG (.lst [V.bl false, .bl false, .bl true, .bl false])
 have t3:=t2.trans m3
 have hG3:(upd (upd (upd (upd H1 e (rY e C_TooFew)) F1 (.lst [V.bl false, .bl false])) F2 (.lst [V.bl true, .bl false])) G (.lst [V.bl false, .bl false, .bl true, .bl false])) G=some (.lst [V.bl false, .bl false, .bl true, .bl false]):=aF
 show aP _ _ _ ([x0,some (.ref e),some (.ref G),x3,none]:St) (upd (upd (upd (upd H1 e (rY e C_TooFew)) F1 (.lst [V.bl false, .bl false])) F2 (.lst [V.bl true, .bl false])) G (.lst [V.bl false, .bl false, .bl true, .bl false]))
 generalize upd (upd (upd (upd H1 e (rY e C_TooFew)) F1 (.lst [V.bl false, .bl false])) F2 (.lst [V.bl true, .bl false])) G (.lst [V.bl false, .bl false, .bl true, .bl false])=H3 at *
 refine ⟨_,rfl,show 4<=ba by decide,fun tp htp=>?_⟩
 have m4:=aJ htp (.tup [V.ref C_NoBack, .ref C_NoRow, .ref C_NoTable, .ref C_NoText])
 have t4:=t3.trans m4
 refine ⟨e,_, .ref tp,false,rfl,h0 _ t4,k.xF, .inr (.inr ⟨tp,[C_NoBack,C_NoRow,C_NoTable,C_NoText],rfl,aF,k.oF⟩),?_⟩
 have hG4:=m4 _ _ hG3
 refine ⟨_,rfl, .inl ⟨rfl,_, .of hG4⟩,G,_, .bl true,rfl,rfl,hG4,rfl,rfl, .int _, .int 1,bh _,rfl,rfl,_,rfl,cL rfl ?_⟩
 refine ⟨_,rfl,false,rfl,cL rfl ?_⟩
 refine ⟨_,rfl,e,_,_,true,rfl,h0 _ t4,k.xF, .inl ⟨_,rfl,k.vF⟩,_,rfl,cL rfl ?_⟩
 refine ⟨show 4<=ba by decide,fun W hW=>?_⟩
 have m5:=aJ hW (.lst [V.str "even", .str "straight", .str "few", .str "many"])
 have hG5:=m5 _ _ hG4
 refine ⟨_,rfl, .inl ⟨rfl,_, .of hG5⟩,G,_, .bl true,2,rfl,rfl,hG5,rfl,rfl,⟨_,rfl,rfl⟩,(fun m z hm hz=>?_),?_⟩
 ·match m,hm with
  | 0,_=>cases hz;rfl
  | 1,_=>cases hz;rfl
 exact ixL (j:=2) (.of aF) rfl (q _ (s1.trans (t4.trans m5)))
def aCe (K:ae) (fo:Addr->Sp->Prop) (C1 C2:Addr):Sp:=fun vs H Q _=>∃ (t f:Addr) (sp:Sp) (x y:V) (C:Addr) (s:Str),vs=[.ref t]/\SqT K H t [.ref f,x,y]/\fo f sp/\((C=C1/\s="even")\/(C=C2/\s="few"))/\(∀ Q' E',(∀ H',Same H H'->E' (.ref C) none H')->sp [x,y] H Q' E')/\∀ H',Same H H'->Q (.str s) H'
theorem aGg {fo:Addr->Sp->Prop}(k:Kx K C_NoBack C_NoRow C_NoTable C_NoText C_NotEven C_NotStraight C_RoundError C_TooFew C_TooMany):∀ vs H Q E,aCe K fo C_NotEven C_TooFew vs H Q E->jK K fo C_NoBack C_NoRow C_NoTable C_NoText C_NotEven C_NotStraight C_RoundError C_TooFew C_TooMany { nx:=fun _ H'=>Q .non H',rt:=Q } (bW ["act","caught","kinds","others","e"] vs) H:=by
 intro vs H Q E h
 obtain ⟨t,f,sp,x,y,C,s,rfl,ht,ho,hC,run,q⟩:=h
 have fin:∀ H1,Same H H1->∀ (a:Addr) (σ':St),H1 a=none->σ'.length=5->aFz K C_NoBack C_NoRow C_NoTable C_NoText C_NotEven C_NotStraight C_TooFew C_TooMany { nx:=fun _ H'=>Q .non H',rt:=Q } (((σ'.set 4 (some (.ref a))).set 1 (some (.ref a))).set 4 none) (upd H1 a (rY a C)):=by
  intro H1 s1 a σ' ha hl
  obtain ⟨x0,x1,x2,x3,x4,rfl⟩:∃ x0 x1 x2 x3 x4,σ'=[x0,x1,x2,x3,x4]:=by
   match σ',hl with
   | [x0,x1,x2,x3,x4],_=>exact ⟨x0,x1,x2,x3,x4,rfl⟩
  rcases hC with ⟨rfl,rfl⟩ | ⟨rfl,rfl⟩
  ·exact aDY rfl k ha fun H2 s2=>q H2 (s1.trans s2)
  ·exact aDK rfl k ha fun H2 s2=>q H2 (s1.trans s2)
 have hx:pq K (.ref C) (.ref C_RoundError)=some true:=by
  rcases hC with ⟨rfl,rfl⟩ | ⟨rfl,rfl⟩
  ·exact k.hE
  ·exact k.hF
 refine ⟨_,rfl,t,_,rfl, .inr ht, .int 3, .int 2,bh _,rfl,rfl,_,rfl,cL rfl ?_⟩
 refine ⟨_,rfl,t,_,rfl, .inr ht, .int 3, .int 3,bh _,rfl,rfl,_,rfl,iI rfl ?_⟩
 refine ⟨_,rfl,ixT (j:=0) ht rfl ⟨f,sp,rfl,ho,_,rfl,ixT (j:=1) ht rfl ⟨_,rfl,ixT (j:=2) ht rfl (run _ _ fun H1 s1=>?_)⟩⟩⟩
 refine ⟨_,rfl,hx,fun a σ' ha hl=>⟨_,?_,fin H1 s1 a σ' ha hl⟩⟩
 rw [gm (by omega)]
end
def oV:Option Nat->V
 | none => .non
 | some p=>cF p
def kvF (f:Fd):List (Key × V):=f.map fun e=>(.inl (e.1:Int),oV e.2)
theorem aCG {f:Fd}:(kvF f).length=f.length:=af ..
theorem tZ {x:Nat}:∀ {f:Fd},(oQ (kvF f) (.inl (x:Int))).isSome=decide (x∈ks f)
 | []=>rfl
 | (y,o) :: f=>by
  by_cases e:y=x
  ·subst e
   rw [show kvF ((y,o) :: f)=(.inl (y:Int),oV o) :: kvF f from rfl,dW rfl]
   simp [ks]
  ·rw [show kvF ((y,o) :: f)=(.inl (y:Int),oV o) :: kvF f from rfl,dU (fun h=>e (by have:=A7 h;omega)),tZ (f:=f)]
   have:(x∈ks ((y,o) :: f))↔x∈ks f:=by
    unfold ks
    rw [df,bj]
    exact ⟨fun h=>h.resolve_left (fun z=>e z.symm), .inr⟩
   exact decide_eq_decide.mpr this.symm
theorem aFr {x p:Nat}{f:Fd}(h:x∉ks f):sO (kvF f) (.inl (x:Int)) (cF p)=kvF (f++[(x,some p)]):=by
 have:¬ ((kvF f).any fun kv=>decide (kv.1=(.inl (x:Int):Key)))=true:=by
  intro c
  obtain ⟨kv,hk,e⟩:=xy.mp c
  obtain ⟨⟨y,o⟩,hy,rfl⟩:=cy.mp hk
  have e:(Sum.inl (y:Int):Key) = .inl (x:Int):=of_decide_eq_true e
  have:=A7 e
  exact h (cy.mpr ⟨_,hy,by show y=x;omega⟩)
 unfold sO
 rw [if_neg this]
 unfold kvF
 rw [cq]
 rfl
section
variable {K:ae}
theorem aCk {ia ib a b:Nat}{σ:St}{H:Hp}{d:Addr}{f:Fd}{D:mJ}(h2:σ[2]?=some (some (.ref d)))(ha:σ[ia]?=some (some (cF a)))(hb:σ[ib]?=some (some (cF b)))(hd:H d=some (.dK (kvF f)))(hz:f.length<=20)
  (q:∀ H',H' d=some (.dK (kvF (half f a b)))->SameX d H H'->D.nx σ H'):eD (aGf (tB (aHW (aE ia) (aE 2))) (tB (uO (aE ib) (aE 2)))) (aP (aBw (aE 2) (aE ib) (aE ia)) aK) aK D σ H:=by
 refine ⟨_,ha,_,h2,d,_,rfl,DGet.k (k := .inl (a:Int)) hd,_,rfl,?_⟩
 rw [tZ]
 by_cases c1:a∈ks f
 ·rw [decide_eq_true c1]
  refine iI rfl ⟨_,hb,_,h2,d,_,rfl,DGet.k (k := .inl (b:Int)) hd,_,rfl,?_⟩
  rw [tZ]
  by_cases c2:b∈ks f
  ·rw [decide_eq_true c2]
   refine cL rfl (q H ?_ fun _ _ _ e=>e)
   unfold half
   rw [if_neg (fun h=>h.2 c2)]
   exact hd
  ·rw [decide_eq_false c2]
   refine iI rfl ?_
   refine ⟨_,ha,_,h2,_,hb,d,_,rfl,DPut.k (k := .inl (b:Int)) hd (bc (show (kvF f).length<=20 by rw [aCG];exact hz) (by decide)),?_⟩
   refine q _ ?_ fun c o hc e=>by rw [aX hc];exact e
   rw [aF,aFr c2]
   unfold half
   rw [if_pos ⟨c1,c2⟩]
 ·rw [decide_eq_false c1]
  refine cL rfl (cL rfl (q H ?_ fun _ _ _ e=>e))
  unfold half
  rw [if_neg (fun h=>c1 h.1)]
  exact hd
def aIb (K:ae):Sp:=fun vs H Q _=>∃ (a:Addr) (s n:Nat) (us:List Nat) (es L:List (Nat × Nat)) (ys:List V),vs=[.ref a, .int (s:Int)]/\H a=some (.lst ys)/\Rows K H ys (prN L)/\Tr n us es L/\n<=8/\s<n /\
 ∀ d H',Same H H'->H' d=some (.dK (kvF (tT L s L.length)))->Q (.ref d) H'
theorem aCC {L:List (Nat × Nat)}{f:Fd}{i:Nat}{e:Nat × Nat}(h:L[i]?=some e):oJ (L.take (i+1)) f=pK (oJ (L.take i) f) e:=by
 unfold oJ
 rw [fk,h,List.foldl_append]
 rfl
theorem aDp:∀ vs H Q E,aIb K vs H Q E->lO K { nx:=fun _ H'=>Q .non H',rt:=Q } (bW ["ties","start","found","turn","i","j"] vs) H:=by
 intro vs H Q E h
 obtain ⟨a,s,n,us,es,L,ys,rfl,ha,hr,tr,n8,hs,q⟩:=h
 have yl:ys.length=L.length:=by rw [hr.1,eO]
 have ll:=tr.len
 intro d hd0
 refine ⟨_,rfl,aF,[(.inl (s:Int), .non)],rfl,show 1<=15 by decide,?_⟩
 show aP _ _ _ ([some (.ref a),some (.int (s:Int)),some (.ref d),none,none,none]:St) (upd (upd H d (.dK [])) d (.dK (kvF (tT L s 0))))
 have s0:Same H (upd (upd H d (.dK [])) d (.dK (kvF (tT L s 0)))):=fun b o e=>by rw [aX (aR e hd0),aX (aR e hd0)];exact e
 have g0:(upd (upd H d (.dK [])) d (.dK (kvF (tT L s 0)))) d=some (.dK (kvF (tT L s 0))):=aF
 generalize upd (upd H d (.dK [])) d (.dK (kvF (tT L s 0)))=G at *
 have na:a≠d:=aR ha hd0
 have nxt:∀ {H1 H2:Hp},Same H H1->SameX d H1 H2->Same H H2:=fun s1 sx b o e=>sx b o (aR e hd0) (s1 b o e)
 refine ⟨_,rfl,a,ys,rfl, .inl (.of (s0 _ _ ha)),(ys.length:Int),rfl,by omega,by omega,?_⟩
 rw [dy,yl]
 refine cZ (lo:=0) (n:=L.length) (fun t σ' H'=>(∃ x3 x4 x5,σ'=[some (.ref a),some (.int (s:Int)),some (.ref d),x3,x4,x5])/\Same H H'/\H' d=some (.dK (kvF (tT L s t)))) ⟨⟨_,_,_,rfl⟩,s0,g0⟩ (fun t σ1 H1 ht ⟨⟨x3,x4,x5,e1⟩,s1,g1⟩=>?_) fun σ1 H1 ⟨⟨x3,x4,x5,e1⟩,s1,g1⟩=>?_
 ·subst e1
  refine ⟨_,rfl,a,rfl, .inl ⟨⟨_, .of (s1 _ _ ha)⟩,?_⟩⟩
  refine cN (K:=K) (a:=a) (xs:=ys) (fun i σ' H'=>i<=ys.length/\(∃ x3 x4 x5,σ'=[some (.ref a),some (.int (s:Int)),some (.ref d),x3,x4,x5])/\Same H H'/\H' d=some (.dK (kvF (oJ (L.take i) (tT L s t))))) ⟨bh _,⟨_,_,_,rfl⟩,s1,g1⟩ (fun i σ2 H2 _ ⟨_,_,s2,_⟩ => .of (s2 _ _ ha)) (fun i x σ2 H2 hx ⟨_,⟨y3,y4,y5,e2⟩,s2,g2⟩=>?_) fun σ2 H2 ⟨_,⟨y3,y4,y5,e2⟩,s2,g2⟩=>?_
  ·subst e2
   have hi:i<ys.length:=(ai.mp hx).1
   obtain ⟨e,b,he,rfl,hb⟩:=nN (hr.same s2) hx
   have AHi:AH es n s (oJ (L.take i) (tT L s t)):=(AH.run hs tr.nx t).pass fun x hx=>tr.nx x (List.mem_of_mem_take hx)
   have z1:=AHi.len_le
   have he':=tr.nx e (aw he)
   have z2:=(AHi.half (a:=e.1) (b:=e.2) he'.1.symm he'.2.2).len_le
   refine ⟨b,_,rfl,hb,rfl,cF e.1,[cF e.2],rfl,cF e.2,[],rfl,rfl,?_⟩
   refine aCk (ia:=4) (ib:=5) (a:=e.1) (b:=e.2) rfl rfl rfl g2 (by omega) fun H3 g3 x3=>?_
   refine aCk (ia:=5) (ib:=4) (a:=e.2) (b:=e.1) rfl rfl rfl g3 (by omega) fun H4 g4 x4=>?_
   exact ⟨hi,⟨_,_,_,rfl⟩,nxt (nxt s2 x3) x4,by rw [aCC he];exact g4⟩
  ·subst e2
   rw [yl,fz] at g2
   exact ⟨⟨_,_,_,rfl⟩,s2,g2⟩
 ·subst e1
  exact ⟨_,rfl,q d H1 s1 g1⟩
end
section
variable {K:ae}
theorem aDf:∀ vs H Q E,aHX K vs H Q E->jF K (aIb K) (aAT K) { nx:=fun _ H'=>Q .non H',rt:=Q } (bW ["many","ties","tie"] vs) H:=by
 intro vs H Q E h
 obtain ⟨n,t,us,es,L,ys,rfl,ht,hr,tr,n1,n8,q⟩:=h
 have yl:ys.length=L.length:=by rw [hr.1,eO]
 have ll:=tr.len
 refine ⟨_,rfl, .ref t,_,"list",rfl,by decide,hr.sh (.of ht),_,rfl,cL rfl ?_⟩
 refine ⟨_,rfl,t,ys,rfl, .inl (.of ht),_,rfl,_,_,rfl,rfl, .int (ys.length:Int), .int ((n:Int) - 1),bh _,rfl,rfl,_,rfl,cL ?_ ?_⟩
 ·show (!eqD (.int (ys.length:Int)) (.int ((n:Int) - 1)))=false
  rw [eqD,show ((ys.length:Int))=(n:Int) - 1 by omega]
  simp
 refine ⟨_,rfl,t,rfl, .inl ⟨⟨_, .of ht⟩,?_⟩⟩
 refine cN (K:=K) (a:=t) (xs:=ys) (fun i σ' H'=>(∃ x2,σ'=[some (.int (n:Int)),some (.ref t),x2])/\Same H H') ⟨⟨_,rfl⟩,Same.refl _⟩ (fun i σ2 H2 _ ⟨_,s2⟩ => .of (s2 _ _ ht)) (fun i x σ2 H2 hx ⟨⟨x2,e2⟩,s2⟩=>?_) fun σ2 H2 ⟨⟨x2,e2⟩,s2⟩=>?_
 ·subst e2
  obtain ⟨e,b,he,rfl,hb⟩:=nN (hr.same s2) hx
  obtain ⟨g1,g2⟩:=tr.L_lt e (aw he)
  exact ⟨_,rfl,_,rfl,n,b,e.1,e.2,rfl,hb,g1,g2,fun H3 s3=>⟨_,rfl,cL rfl ⟨⟨_,rfl⟩,s2.trans s3⟩⟩⟩
 ·subst e2
  refine ⟨_,rfl,_,rfl, .inr ⟨t,ys,prN L,rfl, .inl (.of (s2 _ _ ht)),hr.same s2,aEn,by rw [eO];omega,fun zs R' pR srt _ hr' tl htl=>?_⟩⟩
  obtain rfl:=pS pR tr.srt srt
  have s3:=aJ htl (.lst zs)
  refine ⟨_,_,zI (prN L),((hr.same s2).same s3).sh (.of (s3 _ _ (s2 _ _ ht))),(hr'.same s3).sh (.of aF),_,rfl,iI (mL _) ?_⟩
  have s23:=s2.trans s3
  refine ⟨_,rfl,t,0,n,us,es,L,ys,rfl,s23 _ _ ht,hr.same s23,tr,n8,by omega,fun d H4 s4 hd=>?_⟩
  refine ⟨d,_,rfl,hd,_,rfl, .int _, .int _,bh _,rfl,rfl,?_⟩
  rw [aCG,aFH tr.gr tr.pu tr.nx tr.back (by omega) ll,eqD]
  simp only [BEq.rfl]
  exact q H4 (s23.trans s4)
end
def cR (T:List (List Int)) (D:Int) (us:List Int) (n i:Nat):List Int:=(ar n).map fun j=>if i≠j then at2 T i j*D - us.getD i 0 - us.getD j 0 else 0
def cT (T:List (List Int)) (D:Int) (us:List Int) (n:Nat):List (List Int):=(ar n).map (cR T D us n)
theorem aAh {T:List (List Int)}{D:Int}{us:List Int}{n i j:Nat}(hi:i<n)(hj:j<n):at2 (cT T D us n) i j=if i≠j then cC (at2 T) D (fun k=>us.getD k 0) i j else 0:=by
 have e:(cT T D us n).getD i []=cR T D us n i:=by
  unfold cT
  rw [aj,az,qf hi]
  rfl
 show ((cT T D us n).getD i []).getD j 0=_
 rw [e]
 unfold cR
 rw [aj,az,qf hj]
 rfl
theorem pY {T:List (List Int)}{D:Int}{us:List Int}{n:Nat}:Quad (cT T D us n) n:=⟨by unfold cT;rw [af,cm],fun r hr=>by
 obtain ⟨i,_,rfl⟩:=cy.mp hr
 unfold cR
 rw [af,cm]⟩
section
variable {K:ae}
def aDh (K:ae):Sp:=fun vs H Q _=>∃ (v:V) (tp:Addr) (T:List (List Int)) (n:Nat) (D:Int) (us:List Int),vs=[v, .ref tp, .int D]/\Sh K H (lH T) v/\Quad T n/\Bs T n/\1<=n/\n<=8/\H tp=some (.lst (us.map V.int))/\us.length=n/\∀ F ys H',Same H H'->H' F=some (.lst ys)->Rows K H' ys (cT T D us n)->Q (.ref F) H'
theorem aGl:∀ vs H Q E,aDh K vs H Q E->wP K { nx:=fun _ H'=>Q .non H',rt:=Q } (bW ["table","tops","bottom"] vs) H:=by
 intro vs H Q E h
 obtain ⟨v,tp,T,n,D,us,rfl,hS,qT,bT,n1,n8,htp,ul,q⟩:=h
 obtain ⟨a,rs,rfl,ha,hrl,hrow⟩:=id hS.tab
 have hrl:rs.length=n:=hrl.trans qT.len
 refine ⟨_,rfl,a,false,rfl,⟨rs,ha⟩,fun A hA=>?_⟩
 refine zJ (K:=K) (b:=false) (l:=a) (xs:=rs) (fun i σ' H'=>i<=n/\Same H H'/\(∃ x0 x1,σ'=[x0,x1,some (.int D),some (.ref tp)])/\∃ ys,H' A=some (.lst ys)/\Rows K H' ys ((ar i).map (cR T D us n))) ⟨bh _,aJ hA _,⟨_,_,rfl⟩,[],aF,Rows.nil⟩ (fun i σ1 H1 _ ⟨_,s1,_⟩=>s1.tup ha) (fun i x σ1 H1 p hx hp ⟨_,s1,⟨x0,x1,es⟩,ys,hA1,r1⟩=>?_) fun σ1 H1 ⟨_,s1,_,ys,hA1,r1⟩=>?_
 ·subst es
  have hi:i<n:=by have:=(ai.mp hx).1;omega
  obtain ⟨row,e1,e2,e3⟩:=qT.get hi
  obtain ⟨b,g1,g2⟩:=hrow i row e1
  rw [hx] at g1
  obtain rfl:x = .ref b:=cu g1
  have mp:=aJ hp (.tup [V.int (i:Int), .ref b])
  refine ⟨p,_,rfl, .of aF,rfl, .int (i:Int),[.ref b],rfl, .ref b,[],rfl,rfl,?_⟩
  have s2:=s1.trans mp
  have hA2:=mp _ _ hA1
  have r2:=r1.same mp
  generalize upd H1 p (.tup [V.int (i:Int), .ref b])=G at *
  have hb:=s2.tup g2
  refine ⟨_,rfl,b,false,rfl,⟨_,hb⟩,fun A2 hA2'=>?_⟩
  refine kZ [0,1] ((cR T D us n i).map V.int) hA2' (by rw [af];unfold cR;rw [af,cm];omega) (Emits.cast (aBh (K:=K) (b:=false) (l:=b) (xs:=row.map V.int) (L:=fun j=>[V.int (if i≠j then at2 T i j*D - us.getD i 0 - us.getD j 0 else 0)]) (by decide) (by decide) (by decide) (by show 0<5;decide) (by show 1<5;decide) (fun H' sx=>(dH hA2' sx).tup hb) fun j y σ2 H2 hy l2 ag2 e0 ey sx2 _=>?_) ?_) fun σ2 H2 s3 hl2=>?_
  ·have hj:j<n:=by have:=(ai.mp hy).1;rw [af,e2] at this;exact this
   have ey':y = .int (at2 T i j):=by
    rw [az,L2.lA (by omega)] at hy
    have:at2 T i j=row.getD j 0:=by unfold at2;rw [e3]
    rw [this]
    exact (cu hy).symm
   subst ey'
   have t2:σ2[2]?=some (some (.int (i:Int))):=(ag2 2 (by decide)).trans rfl
   have t3:σ2[3]?=some (some (.int D)):=(ag2 3 (by decide)).trans rfl
   have t4:σ2[4]?=some (some (.ref tp)):=(ag2 4 (by decide)).trans rfl
   have htp2:=dH hA2' sx2 _ _ (s2 _ _ htp)
   have uat:∀ k,k<n->(us.map V.int)[k]?=some (.int (us.getD k 0)):=fun k hk=>by rw [az,L2.lA (by omega)];rfl
   have bb:=bT i j hi hj
   refine qF fun R hR=>⟨_,t2,_,e0, .int (i:Int), .int (j:Int),bh _,rfl,rfl,_,rfl,?_⟩
   rw [aIw]
   by_cases c:i=j
   ·refine cL (by rw [decide_eq_true c];rfl) ?_
    have:=hR H2 (Same.refl _)
    rw [if_neg (fun z=>z c)] at this
    exact this
   ·refine iI (by rw [decide_eq_false c];rfl) ⟨_,ey,_,t3, .inl (.inl ⟨by omega,by omega⟩),_,t4,_,t2,ixL (j:=i) (.of htp2) (uat i hi) ⟨_,_,rfl,rfl,_,t4,_,e0,ixL (j:=j) (.of htp2) (uat j hj) ⟨_,_,rfl,rfl,?_⟩⟩⟩
    have:=hR H2 (Same.refl _)
    rw [if_pos c] at this
    exact this
  ·rw [af,e2]
   unfold cR
   rw [ft]
   have:∀ (L:List Nat) (f:Nat->V),(L.flatMap fun k=>[f k])=L.map f:=fun L f=>by
    induction L with
    | nil=>rfl
    | cons a L ih=>rw [i6,ih];rfl
   rw [this]
   rfl
  ·refine ⟨A2,_,rfl, .inl ⟨.of hl2,fun t ht=>?_⟩⟩
   have mt:=aJ ht (.tup ((cR T D us n i).map V.int))
   have hA4:=mt _ _ (s3 _ _ hA2)
   refine ⟨ys,hA4,bc (show ys.length<=9 by rw [r1.1,af,cm];omega) (by decide),hi,eZ hA ((s2.trans s3).trans mt),⟨_,_,rfl⟩,_,aF,?_⟩
   rw [List.range_succ,cq]
   exact Rows.put (Rows.snoc ((r2.same s3).same mt) (.of aF)) hA4
 ·rw [hrl] at r1
  exact q A ys H1 s1 hA1 r1
theorem zS {A a:Addr}{σ:St}{H:Hp}{xs:List V}{P:Pr}{f:Int × Int->List Int}{ta:TA}{D:mJ}(hA:H A=none)(ha:H a=some (.lst xs))(hr:Rows K H xs (prI P))(z:P.length<=100)(h2:σ.length=2)(hf:∀ e,(f e).length<=100)
  (h:∀ e σ' H',σ'[0]?=some (some (.int e.1))->σ'[1]?=some (some (.int e.2))->∀ Q:List V->Hp->Prop,Q ((f e).map V.int) H'->ta σ' H' Q)
  (q:∀ σ' H' ys,Same H H'->H' A=some (.lst ys)->Rows K H' ys (P.map f)->D.nx σ' H'):jE (Itl K a) (qE K 2 (cO (aL 0) (cO (aL 1) rG))) (eX (gW ta) A) D σ (upd H A (.lst [])):=by
 have xl:xs.length=P.length:=by rw [hr.1];unfold prI;rw [af]
 refine cN (K:=K) (a:=a) (xs:=xs) (D:=D) (fun i σ' H'=>i<=xs.length/\Same H H'/\σ'.length=2/\∃ ys,H' A=some (.lst ys)/\Rows K H' ys ((P.take i).map f)) ⟨bh _,aJ hA _,h2,[],aF,Rows.nil⟩ (fun i σ1 H1 _ ⟨_,s1,_⟩=>SqL.of (s1 _ _ ha)) (fun i x σ1 H1 hx ⟨_,s1,l1,ys,hA1,r1⟩=>?_) fun σ1 H1 ⟨_,s1,l1,ys,hA1,r1⟩=>q σ1 H1 ys s1 hA1 (by rw [xl,fz] at r1;exact r1)
 have hi:i<xs.length:=(ai.mp hx).1
 obtain ⟨e,b,he,rfl,hb⟩:=nZ (hr.same s1) hx
 refine ⟨b,_,rfl,hb,rfl, .int e.1,[.int e.2],rfl, .int e.2,[],rfl,rfl,?_⟩
 refine h e _ H1 (by rw [gp (by decide)];exact kT (by omega)) (kT (by rw [d8];omega)) _ ⟨by rw [af];exact et (hf e) (by decide),fun t ht=>?_⟩
 have mt:=aJ ht (.tup ((f e).map V.int))
 have hA2:=mt _ _ hA1
 refine ⟨ys,hA2,bc (show ys.length<=100 by rw [r1.1,af,e8];omega) (by decide),hi,eZ hA (s1.trans mt),by rw [d8,d8];exact l1,_,aF,?_⟩
 rw [fk,he,cq]
 exact Rows.put (Rows.snoc (r1.same mt) (.of aF)) hA2
theorem aEf {A a:Addr}{σ:St}{H:Hp}{xs:List V}{P:Pr}{D:mJ}(hA:H A=none)(ha:H a=some (.lst xs))(hr:Rows K H xs (prI P))(z:P.length<=100)(h2:σ.length=2)
  (q:∀ σ' H',Same H H'->H' A=some (.lst ((P.map fun e=>e.1).map V.int))->D.nx σ' H'):jE (Itl K a) (qE K 2 (cO (aL 0) (cO (aL 1) rG))) (eX (aE 0) A) D σ (upd H A (.lst [])):=by
 have xl:xs.length=P.length:=by rw [hr.1];unfold prI;rw [af]
 refine cN (K:=K) (a:=a) (xs:=xs) (D:=D) (fun i σ' H'=>i<=xs.length/\Same H H'/\σ'.length=2/\H' A=some (.lst (((P.take i).map fun e=>e.1).map V.int))) ⟨bh _,aJ hA _,h2,aF⟩ (fun i σ1 H1 _ ⟨_,s1,_⟩=>SqL.of (s1 _ _ ha)) (fun i x σ1 H1 hx ⟨_,s1,l1,hA1⟩=>?_) fun σ1 H1 ⟨_,s1,l1,hA1⟩=>q σ1 H1 s1 (by rw [xl,fz] at hA1;exact hA1)
 have hi:i<xs.length:=(ai.mp hx).1
 obtain ⟨e,b,he,rfl,hb⟩:=nZ (hr.same s1) hx
 refine ⟨b,_,rfl,hb,rfl, .int e.1,[.int e.2],rfl, .int e.2,[],rfl,rfl,?_⟩
 refine ⟨.int e.1,by rw [gp (by decide)];exact kT (by omega),_,hA1,?_,hi,eZ hA s1,by rw [d8,d8];exact l1,?_⟩
 ·rw [af,af,e8]
  exact bc (show _<=100 by omega) (by decide)
 ·rw [aF,fk,he,cq,cq]
  rfl
end
def hm (c:Nat->Int) (p:Nat):List Int:=[c p,(p:Int)]
theorem aER {c:Nat->Int}{R:List (List Int)}{M:List Nat}(h:R.Perm (M.map (hm c))):∃ M':List Nat,R=M'.map (hm c)/\M'.Perm M:=by
 let un:List Int->Nat:=fun r=>(r.getD 1 0).toNat
 have hu:∀ p:Nat,un (hm c p)=p:=fun p=>by
  show ((p:Int)).toNat=p
  simp
 refine ⟨R.map un,?_,?_⟩
 ·rw [ft]
  symm
  have:∀ r∈R,(hm c∘un) r=r:=fun r hr=>by
   obtain ⟨p,_,rfl⟩:=cy.mp (h.mem_iff.mp hr)
   show hm c (un (hm c p))=hm c p
   rw [hu]
  rw [ij this,za]
 ·have:=h.map un
  rw [ft] at this
  have e:M.map (un∘hm c)=M:=by
   have:∀ p∈M,(un∘hm c) p=p:=fun p _=>hu p
   rw [ij this,za]
  rw [e] at this
  exact this
theorem aDo {c:Nat->Int}{M:List Nat}{a b:Nat}{r:List Nat}(nd:(a :: b :: r).Nodup)(s:((a :: b :: r).map (hm c)).Pairwise fun x y=>fO y x=false):∀ x y,x∈a :: b :: r->y∈a :: b :: r->x≠y->c a+c b<=c x+c y:=by
 have h1:∀ q∈b :: r,c a<=c q:=fun q hq=>by
  have:=lg s (cy.mpr ⟨q,hq,rfl⟩)
  exact aIa this
 have h2:∀ q∈b :: r,c b<=c q:=fun q hq=>by
  rcases bj.mp hq with rfl | hq
  ·exact rj _
  ·have:=lg (zb s) (cy.mpr ⟨q,hq,rfl⟩)
   exact aIa this
 intro x y hx hy hne
 rcases bj.mp hx with ex | hx'
 ·rcases bj.mp hy with ey | hy'
  ·exact absurd (ex.trans ey.symm) hne
  ·have:=h2 y hy'
   rw [ex]
   omega
 ·rcases bj.mp hy with ey | hy'
  ·have:=h2 x hx'
   rw [ey]
   omega
  ·have:=h1 x hx'
   have:=h2 y hy'
   omega
theorem aCt {C:List (List Int)}(i j:Nat):at2 ((C.drop 1).map fun r=>r.drop 1) i j=at2 C (i+1) (j+1):=by
 unfold at2
 have e:((C.drop 1).map fun r=>r.drop 1).getD i []=(C.getD (i+1) []).drop 1:=by
  rw [aj,az,ky,aj,AV 1 i]
  cases C[i+1]? with
  | none=>rfl
  | some r=>rfl
 rw [e,aj,ky,AV 1 j]
 exact (aj ..).symm
theorem nI {us:List Int}:(ar us.length).map (fun k=>us.getD k 0)=us:=by
 apply tu
 ·simp
 ·intro i h1 h2
  simp [aj,h2]
theorem aGe {T:List (List Int)}{n:Nat}{D:Int}{us:List Int}{vs:List Nat}{es:List (Nat × Nat)}{a b:Nat}{r:List Nat}(n3:3<=n)(sy:Sy T n)(ul:us.length=n)(g:Gr vs es)(l:aCi (at2 (((cT T D us n).drop 1).map fun r=>r.drop 1)) vs (wts (at2 (((cT T D us n).drop 1).map fun r=>r.drop 1)) es))(pv:vs.Perm (ar (n - 1)))
  (pm:(a :: b :: r).Perm ((ar (n - 1)).map (· + 1))) (srt:((a :: b :: r).map (hm fun p=>at2 (cT T D us n) 0 p)).Pairwise fun x y=>fO y x=false) :
  One n vs es a b/\((wts (at2 (((cT T D us n).drop 1).map fun r=>r.drop 1)) es).sum+(at2 (cT T D us n) 0 a+at2 (cT T D us n) 0 b)+2*us.sum)=co (at2 T) D (fun k=>us.getD k 0) n es a b/\IsW (at2 T) D (fun k=>us.getD k 0) n ((wts (at2 (((cT T D us n).drop 1).map fun r=>r.drop 1)) es).sum+(at2 (cT T D us n) 0 a+at2 (cT T D us n) 0 b)+2*us.sum):=by
 have mem:∀ x,x∈a :: b :: r↔1<=x/\x<n:=fun x=>by
  rw [pm.mem_iff,cy]
  constructor
  ·rintro ⟨y,hy,rfl⟩
   have:=cp.mp hy
   omega
  ·intro h
   exact ⟨x - 1,cp.mpr (by omega),by omega⟩
 have nd:(a :: b :: r).Nodup:=pm.nodup_iff.mpr (by
  rw [ic,j6]
  exact List.Pairwise.imp (fun h e=>h (by omega)) (ic.mp ju))
 have ha:=(mem a).mp (by simp)
 have hb:=(mem b).mp (by simp)
 have hab:a≠b:=fun e=>by rw [e] at nd;simp at nd
 have c0:∀ x,1<=x->x<n->at2 (cT T D us n) 0 x=cC (at2 T) D (fun k=>us.getD k 0) 0 x:=fun x h1 h2=>by
  rw [aAh (by omega) h2,if_pos (by omega)]
 have wE:∀ {ws:List Nat} {fs:List (Nat × Nat)},Gr ws fs->ws.Perm (ar (n - 1))->wts (at2 (((cT T D us n).drop 1).map fun r=>r.drop 1)) fs=wts (fun i j=>cC (at2 T) D (fun k=>us.getD k 0) (i+1) (j+1)) fs:=fun {ws fs} g p=>by
  unfold wts
  refine ij fun e he=>?_
  obtain ⟨h1,h2,h3⟩:=g.mem e he
  have h1:=cp.mp (p.mem_iff.mp h1)
  have h2:=cp.mp (p.mem_iff.mp h2)
  rw [aCt,aAh (by omega) (by omega),if_pos (by omega)]
 have sm:us.sum=((ar n).map fun k=>us.getD k 0).sum:=by rw [<- ul,nI]
 have symm:∀ x y,x<n - 1->y<n - 1->at2 (((cT T D us n).drop 1).map fun r=>r.drop 1) x y=at2 (((cT T D us n).drop 1).map fun r=>r.drop 1) y x:=fun x y hx hy=>by
  rw [aCt,aCt,aAh (by omega) (by omega),aAh (by omega) (by omega)]
  by_cases c:x=y
  ·rw [c]
  ·rw [if_pos (by omega),if_pos (by omega)]
   unfold cC
   rw [sy (x+1) (y+1) (by omega) (by omega)]
   omega
 have one:One n vs es a b:=⟨g,pv,ha.1,ha.2,hb.1,hb.2,hab⟩
 have eco:((wts (at2 (((cT T D us n).drop 1).map fun r=>r.drop 1)) es).sum+(at2 (cT T D us n) 0 a+at2 (cT T D us n) 0 b)+2*us.sum)=co (at2 T) D (fun k=>us.getD k 0) n es a b:=by
  unfold co
  rw [wE g pv,c0 a ha.1 ha.2,c0 b hb.1 hb.2,sm]
  omega
 refine ⟨one,eco,⟨vs,es,a,b,one,eco⟩,fun vs' es' a' b' o=>?_⟩
 have p1:=aBq symm g l pv o.gr o.pm
 have p2:=aDo (M:=[]) nd srt a' b' ((mem a').mpr ⟨o.a1,o.an⟩) ((mem b').mpr ⟨o.b1,o.bn⟩) o.ne
 rw [wE o.gr o.pm] at p1
 rw [c0 a' o.a1 o.an,c0 b' o.b1 o.bn] at p2
 unfold co
 rw [<- sm]
 omega
section
variable {K:ae}
theorem aFO {L:List (Nat × Nat)}:prN L=prI (L.map fun e=>((e.1:Int),(e.2:Int))):=by
 unfold prN prI
 rw [ft]
 rfl
def hgL (es:List (Nat × Nat)) (a b:Nat):List (Nat × Nat):=(0,a) :: (0,b) :: es.map fun e=>((mm e).1+1,(mm e).2+1)
def pU (K : ae) (CN CF : Addr) : Sp := fun vs H Q E => ∃ (v : V) (a : Addr) (T : List (List Int)) (n : Nat) (xs : List V) (P : Pr), vs = [v, .ref a] /\ Sh K H (lH T) v /\ Quad T n /\ 1 <= n /\ n <= 8 /\
  ((Bs T n /\ Sy T n /\ 3 <= n /\ SqT K H a xs /\ Rows K H xs (prI P) /\ OkP P /\ P.length = n /\ ∀ p f tl D W vs es a1 b1 ys L H', Same H H' -> H tl = none -> H' p = some (.tup [.ref f, .ref tl]) -> H' f = some (.tup [.int (W / gd W D), .int (D / gd W D)]) -> H' tl = some (.lst ys) -> Rows K H' ys (prN L) -> L.Perm (hgL es a1 b1) -> (prN L).Pairwise (fun a b => fO b a = false) -> 0 < D -> D.natAbs < 2 ^ 600 -> (∀ e ∈ P, e.2 ∣ D) -> One n vs es a1 b1 -> W = co (at2 T) D (fun k => (gD D P).getD k 0) n es a1 b1 -> IsW (at2 T) D (fun k => (gD D P).getD k 0) n W -> Q (.ref p) H') \/
   ((gZ T n).all id = false /\ ∀ H', Same H H' -> E (.ref CN) none H') \/ (Sy T n /\ n < 3 /\ ∀ H', Same H H' -> E (.ref CF) none H'))
theorem aFx {CN CF:Addr}:∀ vs H Q E,pU K CN CF vs H Q E->aEt K CN CF E (aId K) (aDh K) (aHQ K) (jP K) (aIc K) (zX K CN) { nx:=fun _ H'=>Q .non H',rt:=Q } (bW ["table","prices","bottom","tops","counts","count","ties","at_home","all_ties","whole"] vs) H:=by
 intro vs H Q E h
 obtain ⟨v,a,T,n,xs,P,rfl,hS,qT,n1,n8,hh⟩:=h
 refine ⟨_,rfl,v,T,n,rfl,hS,qT,n1,n8,fun H0 s0=>⟨_,rfl,?_⟩⟩
 rcases hh with ⟨bT,sy,n3,ha,hr,okp,pl,q⟩ | ⟨nev,q⟩ | ⟨sy,n2,q⟩
 rotate_left
 ·exact iI (by show (!(gZ T n).all id)=true;rw [nev];rfl) (q H0 s0)
 ·refine cL (by show (!(gZ T n).all id)=false;rw [tN sy];rfl) ?_
  obtain ⟨va,rs,rfl,hva,hrl,hrow⟩:=id hS.tab
  have hrl:rs.length=n:=hrl.trans qT.len
  exact ⟨_,rfl,va,rs,rfl, .inr (s0.tup hva),_,_,rfl,rfl,_,rfl,iI (decide_eq_true (by omega)) (q H0 s0)⟩
 refine cL (by show (!(gZ T n).all id)=false;rw [tN sy];rfl) ?_
 obtain ⟨va,rs,rfl,hva,hrl,hrow⟩:=id hS.tab
 have hrl:rs.length=n:=hrl.trans qT.len
 refine ⟨_,rfl,va,rs,rfl, .inr (s0.tup hva),_,_,rfl,rfl,_,rfl,cL (decide_eq_false (by omega)) ?_⟩
 refine ⟨_,rfl,a,xs,P,rfl,s0.tup ha,hr.same s0,okp,by omega,fun D D0 Db Dd D1=>?_⟩
 refine ⟨_,rfl,_,rfl,a,xs,P,D,rfl,s0.tup ha,hr.same s0,okp,by omega,D0,Db,fun tp H1 s1 htp=>?_⟩
 have tl:(gD D P).length=n:=by unfold gD;rw [af];exact pl
 generalize hus:gD D P=us at *
 have s01:=s0.trans s1
 refine ⟨_,rfl,_,rfl,_,rfl, .ref va,tp,T,n,D,us,rfl,hS.same s01,qT,bT,by omega,n8,htp,tl,fun C cs H2 s2 hC rC=>?_⟩
 have s02:=s01.trans s2
 have cl:cs.length=n:=by rw [rC.1,pY.len]
 refine ⟨_,rfl,_,rfl, .inl ⟨C,cs,rfl, .of hC,fun C1 hC1=>?_⟩⟩
 have ecut:sD cs (some 1) none=cs.drop 1:=by
  unfold sD
  have e1:HT.sIx cs.length 0 (some 1)=1:=by
   have:HT.sIx cs.length 0 (some 1)=min 1 cs.length:=rfl
   rw [this];omega
  have e2:HT.sIx cs.length cs.length none=cs.length:=rfl
  rw [e1,e2]
  exact jl (by rw [il];exact ay _)
 rw [ecut]
 have m1:=aJ hC1 (.lst (cs.drop 1))
 have hC1':(upd H2 C1 (.lst (cs.drop 1))) C1=some (.lst (cs.drop 1)):=aF
 have hC':=m1 _ _ hC
 have rC1:=rC.same m1
 have s03:=s02.trans m1
 have htp3:=m1 _ _ (s2 _ _ htp)
 generalize upd H2 C1 (.lst (cs.drop 1))=G1 at *
 refine ⟨C1,rfl, .inl ⟨⟨_, .of hC1'⟩,fun A hA=>?_⟩⟩
 refine tM (vars:=[0]) (K:=K) (a:=C1) (xs:=cs.drop 1) (fun i L H'=>L.length=i/\Rows K H' L ((((cT T D us n).drop 1).take i).map fun r=>r.drop 1)) (by decide) (by show 0<1;decide) ⟨rfl,Rows.nil⟩ hA (fun i L H' sm _ => .of (sm _ _ hC1')) (fun i x σ1 H3 L D' hx l1 ag1 e0 sm1 ha1 ⟨r0,r1⟩ hD=>?_) fun σ1 H3 L sm1 ha1 ⟨r0,r1⟩=>?_
 ·have hi:i<(cs.drop 1).length:=(ai.mp hx).1
  rw [il] at hi
  rw [ky] at hx
  obtain ⟨row,e1,e2,e3⟩:=(pY (T:=T) (D:=D) (us:=us)).get (show 1+i<n by omega)
  obtain ⟨b,g1,g2⟩:=rC1.2 (1+i) row e1
  rw [hx] at g1
  obtain rfl:x = .ref b:=cu g1
  refine ⟨_,e0,_,rfl, .inr ⟨b,_,rfl,sm1.tup g2,fun p H4 s4 hp=>?_⟩⟩
  have erow:sD (row.map V.int) (some 1) none=(row.drop 1).map V.int:=by
   unfold sD
   have e1:HT.sIx (row.map V.int).length 0 (some 1)=1:=by
    have:HT.sIx (row.map V.int).length 0 (some 1)=min 1 (row.map V.int).length:=rfl
    rw [this,af];omega
   have e2:HT.sIx (row.map V.int).length (row.map V.int).length none=(row.map V.int).length:=rfl
   rw [e1,e2,uf]
   exact jl (by rw [il];exact ay _)
  rw [erow] at hp
  have ha4:=s4 _ _ ha1
  refine ⟨L,ha4,bc (show L.length<=9 by omega) (by decide),?_⟩
  refine hD σ1 _ (L++[.ref p]) l1 ag1 (eZ hA (sm1.trans s4)) aF ⟨by rw [au,r0];rfl,?_⟩
  rw [fk,ky,e1,cq]
  exact Rows.put (Rows.snoc (r1.same s4) hp) ha4
 have dl:(cs.drop 1).length=n - 1:=by rw [il,cl]
 rw [dl] at r0 r1
 have cdl:((cT T D us n).drop 1).length=n - 1:=by rw [il,pY.len]
 rw [jl (by omega)] at r1
 refine ⟨A,L,rfl, .inl ⟨.of ha1,fun tb htb=>?_⟩⟩
 have m2:=aJ htb (.tup L)
 have hTm:Sh K (upd H3 tb (.tup L)) (lH (((cT T D us n).drop 1).map fun r=>r.drop 1)) (.ref tb):=⟨tb,L,rfl, .of aF,ShL.of_rows (r1.same m2).1 (r1.same m2).2⟩
 have s04:=(s03.trans sm1).trans m2
 have htp4:=m2 _ _ (sm1 _ _ htp3)
 have hC4:=m2 _ _ (sm1 _ _ hC')
 have rC4:=(rC1.same sm1).same m2
 generalize upd H3 tb (.tup L)=G2 at *
 have qTm:Quad (((cT T D us n).drop 1).map fun r=>r.drop 1) (n - 1):=⟨by rw [af,cdl],fun r hr=>by
  obtain ⟨r',hr',rfl⟩:=cy.mp hr
  rw [il,pY.row r' (List.mem_of_mem_drop hr')]⟩
 have syTm:Sy (((cT T D us n).drop 1).map fun r=>r.drop 1) (n - 1):=fun x y hx hy=>by
  rw [aCt,aCt,aAh (by omega) (by omega),aAh (by omega) (by omega)]
  by_cases c:x=y
  ·rw [c]
  ·rw [if_pos (by omega),if_pos (by omega)]
   unfold cC
   rw [sy (x+1) (y+1) (by omega) (by omega)]
   omega
 refine ⟨.ref tb,_,n - 1,rfl,hTm,qTm,by omega,by omega, .inl ⟨syTm,fun tr tl' vs es zs Lt H5 s5 _ htr gr le pv htl rtl pLt _=>?_⟩⟩
 have ltz:Lt.length<=8:=by rw [pLt.length_eq,af];have:=gr.len;rw [pv.length_eq,cm] at this;omega
 refine ⟨tr,_,rfl, .of htr,rfl, .int _,[.ref tl'],rfl, .ref tl',[],rfl,rfl,?_⟩
 generalize hcount:(wts (at2 (((cT T D us n).drop 1).map fun r=>r.drop 1)) es).sum=count at *
 have s06:=s04.trans s5
 have htp5:=s5 _ _ htp4
 have hC5:=s5 _ _ hC4
 have rC5:=rC4.same s5
 refine ⟨_,rfl,va,rs,rfl, .inr (s06.tup hva),_,_,rfl,⟨by decide,by decide,by omega,by omega⟩,fun B hB=>?_⟩
 rw [hrl,show ((n:Int) - 1).toNat=n - 1 by omega]
 obtain ⟨row0,e1,e2,e3⟩:=(pY (T:=T) (D:=D) (us:=us)).get (show 0<n by omega)
 obtain ⟨b0,g1,g2⟩:=rC5.2 0 row0 e1
 have hmE:((ar (n - 1)).flatMap fun i=>[hm (fun p=>at2 (cT T D us n) 0 p) (i+1)])=((ar (n - 1)).map (· + 1)).map (hm fun p=>at2 (cT T D us n) 0 p):=by
  have:∀ (L:List Nat) (f:Nat->List Int),(L.flatMap fun k=>[f k])=L.map f:=fun L f=>by
   induction L with
   | nil=>rfl
   | cons a L ih=>rw [i6,ih];rfl
  rw [this,ft]
  rfl
 refine tR (K:=K) [0] (((ar (n - 1)).map (· + 1)).map (hm fun p=>at2 (cT T D us n) 0 p)) hB (by rw [af,af,cm];omega) (EmR.cast (yV (lo:=1) (by decide) (by show 0<2;decide) fun i σ2 H6 hi l2 ag2 e0 sx2=>?_) hmE) fun σ2 H6 pre s6 hB6 r6=>?_
 ·have t1:σ2[1]?=some (some (.ref C)):=(ag2 1 (by decide)).trans rfl
  rw [show (1:Int)+(i:Int)=((i+1:Nat):Int) by omega] at e0
  have s56:=dH hB sx2
  refine xU (by show 2<=100;decide) fun R hR=>⟨_,t1,ixL (j:=0) (.of (s56 _ _ hC5)) g1 ⟨_,e0,ixT (j:=i+1) (s56.tup g2) ?_ ⟨_,e0,hR⟩⟩⟩
  have:at2 (cT T D us n) 0 (i+1)=row0.getD (i+1) 0:=by
   show ((cT T D us n).getD 0 []).getD (i+1) 0=_
   rw [e3]
  rw [az,L2.lA (by omega)]
  show Option.map V.int (some (row0.getD (i+1) 0))=some (V.int (at2 (cT T D us n) 0 (i+1)))
  rw [this]
  rfl
 refine .inr ⟨B,pre,_,rfl, .inl (.of hB6),r6,(fun r hr=>by obtain ⟨p,_,rfl⟩:=cy.mp hr;simp [hm]),by rw [af,af,cm];omega,fun ws R' pR srt _ rw' B2 hB2=>?_⟩
 obtain ⟨Mp,rfl,pM⟩:=aER pR
 have Ml:Mp.length=n - 1:=by rw [pM.length_eq,af,cm]
 obtain ⟨a1,b1,rest,rfl⟩:∃ a1 b1 rest,Mp=a1 :: b1 :: rest:=by
  match Mp,Ml with
  | [],h=>simp at h;omega
  | [_],h=>simp at h;omega
  | a1 :: b1 :: rest,_=>exact ⟨a1,b1,rest,rfl⟩
 have wl:ws.length=n - 1:=by rw [rw'.1,af,Ml]
 have m7:=aJ hB2 (.lst ws)
 refine ⟨2,rfl, .inl ⟨B2,ws,rfl, .of aF,fun B3 hB3=>?_⟩⟩
 have ecut2:sD ws none (some 2)=ws.take 2:=by
  unfold sD
  have e1:HT.sIx ws.length 0 none=0:=rfl
  have e2:HT.sIx ws.length ws.length (some 2)=2:=by
   have:HT.sIx ws.length ws.length (some 2)=min 2 ws.length:=rfl
   rw [this];omega
  rw [e1,e2]
  rfl
 rw [ecut2]
 have m8:=aJ hB3 (.lst (ws.take 2))
 have rH:Rows K (upd (upd H6 B2 (.lst ws)) B3 (.lst (ws.take 2))) (ws.take 2) (prI [(at2 (cT T D us n) 0 a1,(a1:Int)),(at2 (cT T D us n) 0 b1,(b1:Int))]):=by
  have r8:=(rw'.same m7).same m8
  refine ⟨by rw [e8,wl];show min 2 (n - 1)=2;omega,fun i row e=>?_⟩
  have hi:i<2:=(ai.mp e).1
  have e':((a1 :: b1 :: rest).map (hm fun p=>at2 (cT T D us n) 0 p))[i]?=some row:=by
   match i,hi with
   | 0,_=>exact e
   | 1,_=>exact e
  obtain ⟨b,k1,k2⟩:=r8.2 i row e'
  exact ⟨b,by rw [ly hi];exact k1,k2⟩
 have hB3':(upd (upd H6 B2 (.lst ws)) B3 (.lst (ws.take 2))) B3=some (.lst (ws.take 2)):=aF
 have s08:=((s06.trans s6).trans m7).trans m8
 have htp8:=m8 _ _ (m7 _ _ (s6 _ _ htp5))
 have htl8:=m8 _ _ (m7 _ _ (s6 _ _ htl))
 have rtl8:=((rtl.same s6).same m7).same m8
 generalize upd (upd H6 B2 (.lst ws)) B3 (.lst (ws.take 2))=G8 at *
 refine ⟨_,rfl,B3,rfl, .inl ⟨⟨_, .of hB3'⟩,fun A1 hA1=>zS (P:=[(at2 (cT T D us n) 0 a1,(a1:Int)),(at2 (cT T D us n) 0 b1,(b1:Int))]) (f:=fun e=>[0,e.2]) hA1 hB3' rH (by show 2<=100;decide) rfl (fun _=>by show 2<=100;decide) (fun e σ3 H9 k0 k1 R hR=>⟨_,k1,hR⟩) fun σ3 H9 y1 s9 hA9 r9=>?_⟩⟩
 refine ⟨_,rfl,tl',rfl, .inl ⟨⟨_, .of (s9 _ _ htl8)⟩,fun A2 hA2=>zS (P:=Lt.map fun e=>((e.1:Int),(e.2:Int))) (f:=fun e=>[e.1+1,e.2+1]) hA2 (s9 _ _ htl8) (by rw [<- aFO];exact rtl8.same s9) (by rw [af];omega) rfl (fun _=>by show 2<=100;decide) (fun e σ4 H10 k0 k1 R hR=>⟨_,k0,_,k1,hR⟩) fun σ4 H10 y2 s10 hA10 r10=>?_⟩⟩
 have hA9':=s10 _ _ hA9
 refine .inl ⟨A1,A2,y1,y2,rfl,rfl,hA9',hA10,?_,fun A3 hA3=>?_⟩
 ·rw [r9.1,r10.1,af,af,af]
  exact et (show _<=100 by simp;omega) (by decide)
 have m11:=aJ hA3 (.lst (y1++y2))
 have r11:Rows K (upd H10 A3 (.lst (y1++y2))) (y1++y2) ([(at2 (cT T D us n) 0 a1,(a1:Int)),(at2 (cT T D us n) 0 b1,(b1:Int))].map (fun e=>[0,e.2])++(Lt.map fun e=>((e.1:Int),(e.2:Int))).map fun e=>[e.1+1,e.2+1]):=(oW (r9.same s10) r10).same m11
 have hA3':(upd H10 A3 (.lst (y1++y2))) A3=some (.lst (y1++y2)):=aF
 have s0b:=((s08.trans s9).trans s10).trans m11
 have sB:=(s9.trans s10).trans m11
 have htpB:=sB _ _ htp8
 have hB3B:=sB _ _ hB3'
 have rHB:=rH.same sB
 generalize upd H10 A3 (.lst (y1++y2))=G11 at *
 refine ⟨_,rfl,_,rfl,B3,rfl, .inl ⟨⟨_, .of hB3B⟩,fun A4 hA4=>aEf (P:=[(at2 (cT T D us n) 0 a1,(a1:Int)),(at2 (cT T D us n) 0 b1,(b1:Int))]) hA4 hB3B rHB (by show 2<=100;decide) rfl fun σ5 H12 s12 hA12=>⟨A4,_,rfl, .inl (.of hA12),?_⟩⟩⟩
 refine ⟨_,rfl,tp,us,rfl, .inl (.of (s12 _ _ htpB)), .inl (.inl ⟨by decide,by decide⟩),?_⟩
 have eW:(count+([(at2 (cT T D us n) 0 a1,(a1:Int)),(at2 (cT T D us n) 0 b1,(b1:Int))].map fun e=>e.1).sum+2*us.sum)=count+(at2 (cT T D us n) 0 a1+at2 (cT T D us n) 0 b1)+2*us.sum:=by
  show count+(at2 (cT T D us n) 0 a1+(at2 (cT T D us n) 0 b1+0))+2*us.sum=_
  omega
 have hW:=aGe n3 sy tl gr (by rw [<- hcount] at *;exact le) pv pM srt
 rw [hcount] at hW
 obtain ⟨hOne,hco,hW⟩:=hW
 dsimp only [bQ]
 rw [eW]
 generalize count+(at2 (cT T D us n) 0 a1+at2 (cT T D us n) 0 b1)+2*us.sum=W at *
 refine ⟨_,rfl,_,rfl,W,D,rfl,D0,lM Db (by decide),fun f H13 s13 hf=>?_⟩
 refine ⟨_,rfl, .inr ⟨A3,_,_,rfl, .inl (.of (s13 _ _ (s12 _ _ hA3'))),(r11.same s12).same s13,fun r hr=>?_,?_,fun ys' R'' pR'' srt'' _ rR'' l4 hl4=>?_⟩⟩
 ·rcases de.mp hr with h | h
  ·obtain ⟨e,_,rfl⟩:=cy.mp h;simp
  ·obtain ⟨e,_,rfl⟩:=cy.mp h;simp
 ·rw [au,af,af,af]
  show 2+_<64
  omega
 have m14:=aJ hl4 (.lst ys')
 refine ⟨show 2<=ba by decide,fun p hp=>?_⟩
 have m15:=aJ hp (.tup [V.ref f, .ref l4])
 have eAll:[(at2 (cT T D us n) 0 a1,(a1:Int)),(at2 (cT T D us n) 0 b1,(b1:Int))].map (fun e=>[0,e.2])++(Lt.map fun e=>((e.1:Int),(e.2:Int))).map (fun e=>[e.1+1,e.2+1])=prN ((0,a1) :: (0,b1) :: Lt.map fun e=>(e.1+1,e.2+1)):=by
  unfold prN
  show [0,(a1:Int)] :: [0,(b1:Int)] :: (Lt.map fun e=>((e.1:Int),(e.2:Int))).map (fun e=>[e.1+1,e.2+1])=[((0:Nat):Int),(a1:Int)] :: [((0:Nat):Int),(b1:Int)] :: (Lt.map fun e:Nat × Nat=>((e.1+1,e.2+1):Nat × Nat)).map fun e:Nat × Nat=>[(e.1:Int),(e.2:Int)]
  rw [ft,ft]
  rfl
 rw [eAll] at pR''
 obtain ⟨L',rfl,pL'⟩:=aAd pR''
 have sAll:=((s0b.trans s12).trans s13)
 have pL2:L'.Perm (hgL es a1 b1):=by
  refine pL'.trans ?_
  unfold hgL
  refine List.Perm.cons _ (List.Perm.cons _ ?_)
  have:=pLt.map fun e:Nat × Nat=>(e.1+1,e.2+1)
  rw [ft] at this
  exact this
 exact q p f l4 D W vs es a1 b1 ys' L' _ ((sAll.trans m14).trans m15) (sAll.free hl4) aF (m15 _ _ (m14 _ _ hf)) (m15 _ _ aF) ((rR''.same m14).same m15) pL2 srt'' D0 Db Dd hOne (by rw [hus];exact hco) (by rw [hus];exact hW)
end
theorem aCx {S D:Int}(D0:0<D):S / gd S D*D=S*(D / gd S D):=by
 obtain ⟨r1,r2,r3,_⟩:=kK (i:=S) D0
 have l:S / gd S D*D=S / gd S D*(gd S D*(D / gd S D)):=by rw [<- r2]
 rw [l,<- fq,jj (S / gd S D) (gd S D),<- r1]
theorem aCn {S D e1 e2:Int}(D0:0<D)(h0:0<e2)(hd:e2 ∣ D) :
  (S / gd S D*e2+e1*(D / gd S D)) / gd (S / gd S D*e2+e1*(D / gd S D)) (D / gd S D*e2)=(S+e1*(D / e2)) / gd (S+e1*(D / e2)) D/\(D / gd S D*e2) / gd (S / gd S D*e2+e1*(D / gd S D)) (D / gd S D*e2)=D / gd (S+e1*(D / e2)) D:=by
 obtain ⟨r1,r2,r3,_⟩:=kK (i:=S) D0
 refine aEF (rq r3 h0) D0 ?_
 have ed:D / e2*e2=D:=Int.ediv_mul_cancel hd
 have c:=aCx (S:=S) D0
 generalize S / gd S D=x at *
 generalize D / gd S D=y at *
 generalize D / e2=k at *
 rw [Ar,Ar,Int.mul_right_comm x e2 D,c]
 have:e1*k*(y*e2)=e1*y*D:=by rw [<- ed,fq,fq,h7 k y e2]
 rw [this,fq S y e2]
section
variable {K:ae}
def yU (K:ae):Sp:=fun vs H Q _=>∃ (a:Addr) (xs:List V) (P:Pr) (D:Int),vs=[.ref a]/\H a=some (.lst xs)/\Rows K H xs (prI P)/\OkP P/\0<D/\D.natAbs<2 ^ 600/\(∀ e∈P,e.2 ∣ D)/\∀ p H',Same H H'->H' p=some (.tup [.int ((gD D P).sum / gd (gD D P).sum D), .int (D / gd (gD D P).sum D)])->Q (.ref p) H'
theorem aBe {D:Int}{P:Pr}{i:Nat}{e:Int × Int}(he:P[i]?=some e):(gD D (P.take (i+1))).sum=(gD D (P.take i)).sum+e.1*(D / e.2):=by
 unfold gD
 rw [fk,he,cq,qw]
 simp
theorem aEL:∀ vs H Q E,yU K vs H Q E->oB K (jP K) { nx:=fun _ H'=>Q .non H',rt:=Q } (bW ["some","top","bottom","one"] vs) H:=by
 intro vs H Q E h
 obtain ⟨a,xs,P,D,rfl,ha,hr,okp,D0,Db,dv,q⟩:=h
 have xl:xs.length=P.length:=by rw [hr.1];unfold prI;rw [af]
 refine ⟨show 2<=ba by decide,fun u hu=>⟨u,_,rfl, .of aF,rfl, .int 0,[.int 1],rfl, .int 1,[],rfl,rfl,?_⟩⟩
 have mu:=aJ hu (.tup [.int 0, .int 1])
 have haG:=mu _ _ ha
 have hrG:=hr.same mu
 generalize upd H u (.tup [.int 0, .int 1])=G at *
 have z0:(0:Int) / gd 0 D=0/\D / gd 0 D=1:=by
  have e:gd 0 D=D:=by unfold gd;rw [Int.gcd_zero_left];omega
  rw [e]
  exact ⟨Int.zero_ediv _,Int.ediv_self (by omega)⟩
 refine ⟨_,rfl,a,rfl, .inl ⟨⟨_, .of haG⟩,cN (K:=K) (a:=a) (xs:=xs) (fun i σ' H'=>i<=xs.length/\Same G H'/\∃ (S:Int) (x3:Option V),S=(gD D (P.take i)).sum/\σ'=[some (.ref a),some (.int (S / gd S D)),some (.int (D / gd S D)),x3]) ⟨bh _,Same.refl _,0,none,rfl,by rw [z0.1,z0.2];rfl⟩ (fun i σ1 H1 _ ⟨_,s1,_⟩ => .of (s1 _ _ haG)) (fun i x σ1 H1 hx ⟨_,s1,S,x3,eS,es⟩=>?_) fun σ1 H1 ⟨_,s1,S,x3,eS,es⟩=>?_⟩⟩
 ·subst es
  have hi:i<xs.length:=(ai.mp hx).1
  obtain ⟨e,b,he,rfl,hb⟩:=nZ (hrG.same s1) hx
  have hm:=aw he
  obtain ⟨o1,o2,o3⟩:=okp e hm
  obtain ⟨r1,r2,r3,_⟩:=kK (i:=S) D0
  have yle:D / gd S D<=D:=nk _ (by omega)
  have yb:(D / gd S D).natAbs<2 ^ 600:=bc (show _<=D.natAbs by omega) Db
  refine ⟨_,rfl,_,rfl,ixT (j:=1) hb rfl ⟨.inl (.inr ⟨by omega,by omega⟩),_,rfl,ixT (j:=0) hb rfl ⟨_,rfl, .inr ⟨lM o3 (by decide),lM yb (by decide)⟩,?_⟩⟩⟩
  dsimp only [bQ]
  refine ⟨_,rfl,_,rfl,ixT (j:=1) hb rfl ⟨.inl (.inr ⟨by omega,by omega⟩),?_⟩⟩
  obtain ⟨t1,t2⟩:=aCn (S:=S) (e1:=e.1) D0 o1 (dv e hm)
  refine ⟨_,_,rfl,rq r3 o1,lM (aCI (a:=600) (b:=62) yb (by omega)) (by decide),fun p H2 s2 hp=>?_⟩
  rw [t1,t2] at hp
  refine ⟨p,_,rfl, .of hp,rfl, .int _,[.int _],rfl, .int _,[],rfl,rfl,hi,s1.trans s2,S+e.1*(D / e.2),_,by rw [aBe he,<- eS],rfl⟩
 ·subst es
  rw [xl,fz] at eS
  subst eS
  exact ⟨_,rfl,_,rfl,show 2<=ba by decide,fun p hp=>q p _ ((mu.trans s1).trans (aJ hp _)) aF⟩
def nC (x y:Int):Dt := .tup [.int x, .int y]
theorem uE (x y:Int):dep (nC x y)<=100:=by
 unfold nC
 simp [dep,wZ]
theorem jO {H:Hp}{a:Addr}{x y:Int}(h:SqT K H a [.int x, .int y]):Sh K H (nC x y) (.ref a):=⟨a,_,rfl,h,ShL.ints [x,y]⟩
theorem xV (x y:Int):eqD (nC x y) (nC x y)=true:=by
 unfold nC
 rw [eqD,eqL,eqL,eqL,eqD,eqD]
 simp
def aIe (K:ae):Sp:=fun vs H Q _=>∃ (a:Addr) (W D:Int),vs=[.ref a]/\SqT K H a [.int (W / gd W D), .int (D / gd W D)]/\0<D/\D.natAbs<2 ^ 600/\∀ H',Same H H'->Q (.bl true) H'
theorem aIx:∀ vs H Q E,aIe K vs H Q E->gJ K (jP K) (L.spW K) { nx:=fun _ H'=>Q .non H',rt:=Q } (bW ["thing"] vs) H:=by
 intro vs H Q E h
 obtain ⟨a,W,D,rfl,ha,D0,Db,q⟩:=h
 obtain ⟨r1,r2,r3,r4⟩:=kK (i:=W) D0
 have yle:D / gd W D<=D:=nk _ (by omega)
 generalize W / gd W D=x at *
 generalize D / gd W D=y at *
 have eg:gd x y=1:=by unfold gd;rw [r4];rfl
 refine ⟨_,rfl, .ref a,_,"tuple",rfl,by decide,jO ha,_,rfl,cL rfl ?_⟩
 refine ⟨_,rfl,a,_,rfl, .inr ha, .int 2, .int 2,bh _,rfl,rfl,_,rfl,cL rfl ?_⟩
 refine ⟨_,rfl,ixT (j:=0) ha rfl ⟨_, .int x,rfl,rfl,fun H1 s1=>⟨_,rfl,cL rfl ?_⟩⟩⟩
 refine ⟨_,rfl,ixT (j:=1) (s1.tup ha) rfl ⟨_, .int y,rfl,rfl,fun H2 s2=>⟨_,rfl,cL rfl ?_⟩⟩⟩
 have s12:=s1.trans s2
 refine ⟨_,rfl,ixT (j:=1) (s12.tup ha) rfl ⟨_,_,rfl,rfl,_,rfl,cL (decide_eq_false (by omega)) ?_⟩⟩
 refine ⟨_,rfl,ixT (j:=0) (s12.tup ha) rfl ⟨_,rfl,ixT (j:=1) (s12.tup ha) rfl ⟨x,y,rfl,r3,bc (show _<=D.natAbs by omega) (lM Db (by decide)),fun p H3 s3 hp=>?_⟩⟩⟩
 rw [eg,yi,yi] at hp
 refine ⟨_,rfl,nC x y,nC x y,uE x y,jO (.of hp),jO ((s12.trans s3).tup ha),?_⟩
 rw [xV]
 exact q H3 (s12.trans s3)
end
theorem aFF {x:Nat}{gs:List Nat}:inV (.int (x:Int)) (gs.map cF)=decide (x∈gs):=by
 unfold inV
 rw [List.any_map]
 by_cases h:x∈gs
 ·rw [decide_eq_true h]
  exact xy.mpr ⟨x,h,by show ((x:Int) == (x:Int))=true;simp⟩
 ·rw [decide_eq_false h]
  refine w5.mpr fun y hy=>?_
  show ¬ ((y:Int) == (x:Int))=true
  intro e
  have:(y:Int)=(x:Int):=by simpa using e
  exact h (by rw [show x=y by omega];exact hy)
theorem aBA (gs:List Nat):(gs.map cF).all mS=true:=by
 rw [List.all_map]
 exact fg.mpr fun _ _=>rfl
theorem wG {m:Nat}{us:List Nat}(nd:us.Nodup)(lt:∀ x∈us,x<m)(all:∀ y,y<m->y∈us):us.Perm (ar m):=(kg nd ju).mpr fun a=>⟨fun h=>cp.mpr (lt a h),fun h=>all a (cp.mp h)⟩
def kP (i j:Nat):List Key:=[.inl (i:Int), .inl (j:Int)]
theorem aCD (i j:Nat):(kP i j).map kV=[cF i,cF j]:=rfl
def DC (H:Hp) (d:Addr) (C:Nat->Nat->Int) (n:Nat):Prop:=∃ kvs,H d=some (.dT kvs)/\∀ i j,i<j->j<n->oQ kvs (kP i j)=some (.int (C i j))
def up1 (us:List Nat):List V:=(us.map (· + 1)).map cF
theorem lB {us:List Nat}:(up1 us).length=us.length:=by unfold up1;rw [af,af]
theorem aEu {us:List Nat}{i:Nat}{x:V}(h:(up1 us)[i]?=some x):∃ u,us[i]?=some u/\x=cF (u+1):=by
 unfold up1 at h
 rw [az,az] at h
 cases e:us[i]? with
 | none=>rw [e] at h;cases h
 | some u=>rw [e] at h;exact ⟨u,rfl,(cu h).symm⟩
theorem aHB {us : List Nat} {y : Nat} : inV (cF (y + 1)) (up1 us) = decide (y ∈ us) := by
  show inV (.int ((y + 1 : Nat) : Int)) _ = _
  unfold up1
  rw [aFF]
  congr 1
  apply propext
  rw [cy]
  exact ⟨fun ⟨z, hz, e⟩ => by have : z = y := by omega
                              exact this ▸ hz, fun h => ⟨y, h, rfl⟩⟩
structure aGH (K:ae)(H:Hp)(F:Addr)(C:Nat->Nat->Int)(n:Nat)(us:List Nat)(i j:Nat):Prop where
 ex:∃ (ys:List V) (R:List (List Int)),H F=some (.lst ys)/\Rows K H ys R/\R.length<=8*i+j/\(∀ r∈R,∃ x∈us,∃ y,y<n - 1/\y∉us/\r=[C (x+1) (y+1),((y+1:Nat):Int)]) /\
  ∀ a x,us[a]?=some x->∀ y,y<n - 1->y∉us->(a<i\/a=i/\y<j)->[C (x+1) (y+1),((y+1:Nat):Int)]∈R
section
variable {K:ae}
def aCU (K:ae):Sp:=fun vs H Q _=>∃ (pl d:Addr) (C:Nat->Nat->Int) (n:Nat),vs=[.ref pl, .ref d]/\H pl=some (.lst (up1 (ar (n - 1))))/\DC H d C n/\2<=n/\n<=8/\(∀ i j,i<n->j<n->C i j=C j i) /\
 ∀ us es H',Same H H'->Gr us es->us.Perm (ar (n - 1))->aCi (fun x y=>C (x+1) (y+1)) us (wts (fun x y=>C (x+1) (y+1)) es)->Q (.int (wts (fun x y=>C (x+1) (y+1)) es).sum) H'
theorem aHv:∀ vs H Q E,aCU K vs H Q E->iZ K { nx:=fun _ H'=>Q .non H',rt:=Q } (bW ["places","counts","inside","found","some","one","two"] vs) H:=by
 intro vs H Q E h
 obtain ⟨pl,d,C,n,rfl,hpl,⟨kvs,hd,hv⟩,n2,n8,sym,q⟩:=h
 refine ⟨_,rfl,ixL (j:=0) (v:=cF 1) (.of hpl) ?_ ⟨show 1<=ba by decide,fun F2 hF2=>?_⟩⟩
 ·unfold up1
  rw [az,az,qf (by omega)]
  rfl
 have m2:=aJ hF2 (.lst [cF 1])
 have hF2':(upd H F2 (.lst [cF 1])) F2=some (.lst (up1 [0])):=aF
 generalize upd H F2 (.lst [cF 1])=G at *
 have npl:pl≠F2:=aR hpl hF2
 have nd2:d≠F2:=aR hd hF2
 refine ⟨fun k σ' H'=>∃ (us:List Nat) (es:List (Nat × Nat)) (x4 x5 x6:Option V),σ'=[some (.ref pl),some (.ref d),some (.ref F2),some (.int (wts (fun x y=>C (x+1) (y+1)) es).sum),x4,x5,x6]/\Same H H'/\H' F2=some (.lst (up1 us))/\Gr us es/\(∀ x∈us,x<n - 1) /\
   (∀ k w,(wts (fun x y=>C (x+1) (y+1)) es)[k]?=some w->∀ x∈us.take (k+1),∀ y,y∈us.drop (k+1)\/(y<n - 1/\y∉us)->w<=C (x+1) (y+1))/\n - us.length=k,
  ⟨n - 1,[0],[],none,none,none,rfl,m2,hF2', .one 0,(fun x hx=>by rw [bq.mp hx];omega),(fun k w z=>by cases z),rfl⟩,?_⟩
 rintro k σ' H1 ⟨us,es,x4,x5,x6,rfl,s1,g2,gr,ltm,lw,rfl⟩
 have lel:=gr.len
 have nd:=gr.nd
 have lus:us.length<=n - 1:=lS (n - 1) us nd ltm
 have hpl1:=s1 _ _ hpl
 have hd1:=s1 _ _ hd
 refine ⟨_,rfl,F2,_,rfl, .inl (.of g2),_,rfl,pl,_,rfl, .inl (.of hpl1),_,_,rfl,rfl,_,rfl,?_⟩
 rw [lB,lB,cm]
 by_cases cl:us.length<n - 1
 ·refine iI (decide_eq_true (by omega)) ?_
  refine ⟨fun σ2 H2=>∃ (us':List Nat) (es':List (Nat × Nat)) (x4 x5 x6:Option V),σ2=[some (.ref pl),some (.ref d),some (.ref F2),some (.int (wts (fun x y=>C (x+1) (y+1)) es').sum),x4,x5,x6]/\Same H H2/\H2 F2=some (.lst (up1 us'))/\Gr us' es'/\(∀ x∈us',x<n - 1) /\
   (∀ k w,(wts (fun x y=>C (x+1) (y+1)) es')[k]?=some w->∀ x∈us'.take (k+1),∀ y,y∈us'.drop (k+1)\/(y<n - 1/\y∉us')->w<=C (x+1) (y+1))/\n - us'.length<n - us.length,fun σ2 H2 ⟨us',es',x4,x5,x6,e1,e2,e3,e4,e5,e6,e7⟩=>⟨_,e7,us',es',x4,x5,x6,e1,e2,e3,e4,e5,e6,rfl⟩,?_⟩
  refine ⟨show 0<=ba by decide,fun F4 hF4=>?_⟩
  have m4:=aJ hF4 (.lst [])
  have n42:F2≠F4:=aR g2 hF4
  have hF4':(upd H1 F4 (.lst [])) F4=some (.lst []):=aF
  have g2':=m4 _ _ g2
  have s14:=s1.trans m4
  have fr4:H F4=none:=s1.free hF4
  have hpl4:=m4 _ _ hpl1
  have hd4:=m4 _ _ hd1
  have np4:pl≠F4:=aR hpl1 hF4
  have nd4:d≠F4:=aR hd1 hF4
  generalize upd H1 F4 (.lst [])=G4 at *
  refine ⟨_,rfl,F2,rfl, .inl ⟨⟨_, .of g2'⟩,?_⟩⟩
  refine cN (K:=K) (a:=F2) (xs:=up1 us) (fun i σ' H'=>i<=us.length/\(∃ x5 x6,σ'=[some (.ref pl),some (.ref d),some (.ref F2),some (.int (wts (fun x y=>C (x+1) (y+1)) es).sum),some (.ref F4),x5,x6])/\SameX F4 G4 H'/\aGH K H' F4 C n us i 0) ⟨bh _,⟨_,_,rfl⟩,SameX.refl _ _,⟨[],[],hF4',Rows.nil,bh _,(fun r hr=>by cases hr),fun a x _ y _ _ h=>by omega⟩⟩ (fun i σ2 H2 _ ⟨_,_,sx,_⟩ => .of (sx _ _ n42 g2')) (fun i x σ2 H2 hx ⟨_,⟨x5,x6,es2⟩,sx2,sm2⟩=>?_) fun σ2 H2 ⟨_,⟨x5,x6,es2⟩,sx2,sm2⟩=>?_
  ·subst es2
   have hi:i<us.length:=by have:=(ai.mp hx).1;rwa [lB] at this
   obtain ⟨u,eu,rfl⟩:=aEu hx
   have hu:=ltm u (aw eu)
   refine ⟨_,rfl,pl,rfl, .inl ⟨⟨_, .of (sx2 _ _ np4 hpl4)⟩,?_⟩⟩
   refine cN (K:=K) (a:=pl) (xs:=up1 (ar (n - 1))) (fun j σ' H'=>j<=n - 1/\(∃ x6,σ'=[some (.ref pl),some (.ref d),some (.ref F2),some (.int (wts (fun x y=>C (x+1) (y+1)) es).sum),some (.ref F4),some (cF (u+1)),x6])/\SameX F4 G4 H'/\aGH K H' F4 C n us i j) ⟨bh _,⟨_,rfl⟩,sx2,sm2⟩ (fun j σ2 H2 _ ⟨_,_,sx,_⟩ => .of (sx _ _ np4 hpl4)) (fun j y σ3 H3 hy ⟨_,⟨x6,es3⟩,sx3,sm3⟩=>?_) fun σ3 H3 ⟨_,⟨x6,es3⟩,sx3,sm3⟩=>?_
   ·subst es3
    have hj:j<n - 1:=by have:=(ai.mp hy).1;rwa [lB,cm] at this
    obtain ⟨y',ey,rfl⟩:=aEu hy
    rw [qf hj] at ey
    obtain rfl:j=y':=cu ey
    obtain ⟨ys,R,c1,c2,c3,c4,c5⟩:=sm3.ex
    refine ⟨_,rfl,_,rfl,F2,_,rfl, .inl (.of (sx3 _ _ n42 g2')),rfl,aBA _,_,rfl,?_⟩
    rw [if_pos rfl,aHB]
    by_cases cj:j∈us
    ·refine cL (by rw [decide_eq_true cj];rfl) ⟨hj,⟨_,rfl⟩,sx3,⟨ys,R,c1,c2,by omega,c4,fun a x ha y hy hn h=>c5 a x ha y hy hn ?_⟩⟩
     rcases h with h | ⟨h1,h2⟩
     ·exact .inl h
     ·refine .inr ⟨h1,?_⟩
      have:y≠j:=fun e=>hn (e ▸ cj)
      omega
    ·refine iI (by rw [decide_eq_false cj];rfl) ?_
     have huj:u≠j:=fun e=>cj (e ▸ aw eu)
     refine ⟨_,rfl, .inl ⟨rfl,_, .of c1⟩,_,rfl,_,rfl,_,rfl,_,_,rfl,?_⟩
     rw [aJn]
     refine ⟨_,rfl,_,rfl,_,_,rfl,?_⟩
     rw [aJu]
     refine ⟨show 2<=ba by decide,fun b hb=>?_⟩
     have mb:=aJ hb (.tup [V.int ((min (u+1) (j+1):Nat):Int),V.int ((max (u+1) (j+1):Nat):Int)])
     have eC:oQ kvs (kP (min (u+1) (j+1)) (max (u+1) (j+1)))=some (.int (C (u+1) (j+1))):=by
      rw [hv _ _ (by omega) (by omega)]
      rcases sv (u+1) (j+1) with c | c
      ·rw [ka c,qa c]
      ·rw [qb c,qv c,sym _ _ (by omega) (by omega)]
     refine ⟨d, .int (C (u+1) (j+1)),rfl,?_,_,rfl,show 2<=ba by decide,fun b2 hb2=>?_⟩
     ·rw [<- eC]
      exact DGet.t (mb _ _ (sx3 _ _ nd4 hd4)) (by rw [aCD];exact aF)
     have mb2:=aJ hb2 (.tup [V.int (C (u+1) (j+1)),cF (j+1)])
     have c1':=mb2 _ _ (mb _ _ c1)
     refine ⟨F4,ys,_,rfl,rfl,c1',bc (show ys.length<=100 by rw [c2.1];omega) (by decide),?_⟩
     refine ⟨hj,⟨_,rfl⟩,(sx3.trans (mb.trans mb2).x).trans (SameX.put _),⟨_,R++[[C (u+1) (j+1),((j+1:Nat):Int)]],aF,Rows.put (Rows.snoc ((c2.same mb).same mb2) (.of aF)) c1',by rw [au];simp;omega,fun r hr=>?_,fun a x ha y hy hn h=>?_⟩⟩
     ·rcases de.mp hr with hr | hr
      ·exact c4 r hr
      ·exact ⟨u,aw eu,j,hj,cj,bq.mp hr⟩
     ·by_cases c:a=i/\y=j
      ·obtain ⟨rfl,rfl⟩:=c
       rw [eu] at ha
       cases ha
       exact dg _ (bq.mpr rfl)
      ·exact d5 _ (c5 a x ha y hy hn (by omega))
   ·subst es3
    rw [lB,cm] at sm3
    obtain ⟨ys,R,c1,c2,c3,c4,c5⟩:=sm3.ex
    exact ⟨hi,⟨_,_,rfl⟩,sx3,⟨ys,R,c1,c2,by omega,c4,fun a x ha y hy hn h=>c5 a x ha y hy hn (by omega)⟩⟩
  ·subst es2
   rw [lB] at sm2
   obtain ⟨ys,R,c1,c2,c3,c4,c5⟩:=sm2.ex
   obtain ⟨y0,hy0,hy0n⟩:∃ y0,y0<n - 1/\y0∉us:=by
    apply dz
    intro no
    have hsub:∀ y,y<n - 1->y∈us:=fun y hy=>dz fun h=>no ⟨y,hy,h⟩
    have:=(wG nd ltm hsub).length_eq
    rw [cm] at this
    omega
   have u0:us≠[]:=fun e=>by rw [e] at lel;simp at lel
   obtain ⟨x0,ut,eu0⟩:=vf u0
   have hne:R≠[]:=fun e=>by
    have:=c5 0 x0 (by rw [eu0];rfl) y0 hy0 hy0n (.inl (by rw [eu0];simp))
    rw [e] at this
    cases this
   refine ⟨_,rfl,_,rfl, .inr ⟨F4,ys,R,rfl, .inl (.of c1),c2,hne,fun i1 b1 r1 hb1 hr1 sq1 min1=>?_⟩⟩
   obtain ⟨x,hx,y,hy,hyn,rfl⟩:=c4 r1 (aw hr1)
   refine ixT (j:=0) sq1 rfl ?_
   dsimp only [bQ]
   have g2b:=sx2 _ _ n42 g2'
   refine ⟨_,rfl, .inl ⟨rfl,_, .of g2b⟩,_,rfl, .inr ⟨F4,ys,R,rfl, .inl (.of c1),c2,hne,fun i2 b2 r2 hb2 hr2 sq2 min2=>?_⟩⟩
   obtain rfl:r2=[C (x+1) (y+1),((y+1:Nat):Int)]:=pH (min1 _ (aw hr2)) (min2 _ (aw hr1))
   refine ixT (j:=1) sq2 rfl ⟨F2,up1 us,_,rfl,rfl,g2b,bc (show (up1 us).length<=9 by rw [lB];omega) (by decide),?_⟩
   have fr2:H F2=none:=hF2
   refine ⟨us++[y],es++[(x,y)],some (.ref F4),x5,x6,?_,?_,?_, .more gr hx hyn,fun z hz=>?_,fun k w hk x' hx' y' hy'=>?_,by rw [au];simp;omega⟩
   ·have es':(wts (fun x y=>C (x+1) (y+1)) (es++[(x,y)])).sum=(wts (fun x y=>C (x+1) (y+1)) es).sum+C (x+1) (y+1):=by
     unfold wts
     rw [cq,qw]
     simp
    rw [es']
    rfl
   ·intro c o e
    rw [aX (aR e fr2)]
    exact sx2 _ _ (aR e fr4) (s14 _ _ e)
   ·rw [aF]
    unfold up1
    rw [cq,cq]
    rfl
   ·rcases de.mp hz with hz | hz
    ·exact ltm z hz
    ·rw [bq.mp hz];exact hy
   ·have lwl:(wts (fun x y=>C (x+1) (y+1)) es).length=es.length:=by unfold wts;rw [af]
    have least:∀ x'∈us,∀ y',y'<n - 1->y'∉us->C (x+1) (y+1)<=C (x'+1) (y'+1):=fun x' hx' y' h1 h2=>by
     obtain ⟨a,ha⟩:=gi.mp hx'
     have hal:=(ai.mp ha).1
     exact aIa (min1 _ (c5 a x' ha y' h1 h2 (.inl hal)))
    unfold wts at hk
    rw [cq] at hk
    by_cases ck:k<es.length
    ·rw [dk (by rw [af];exact ck)] at hk
     rw [jv (by omega)] at hx'
     refine lw k w hk x' hx' y' ?_
     rw [jw (by omega)] at hy'
     rcases hy' with h | ⟨h1,h2⟩
     ·rcases de.mp h with h | h
      ·exact .inl h
      ·rw [bq.mp h];exact .inr ⟨hy,hyn⟩
     ·exact .inr ⟨h1,fun h=>h2 (d5 _ h)⟩
    ·have ek:k=es.length:=by
      have:=(ai.mp hk).1
      rw [au,af,af] at this
      simp at this
      omega
     subst ek
     rw [dw (by rw [af];exact ay _),af,sr] at hk
     obtain rfl:C (x+1) (y+1)=w:=by simpa using hk
     rw [jv (by omega),jl (by omega)] at hx'
     rcases hy' with h | ⟨h1,h2⟩
     ·rw [jw (by omega),yf (by omega),ur] at h
      rw [bq.mp h];exact least x' hx' y hy hyn
     ·exact least x' hx' y' h1 fun h=>h2 (d5 _ h)
 ·refine cL (decide_eq_false (by omega)) ?_
  have pm:us.Perm (ar (n - 1)):=wG nd ltm fun y hy=>dz fun h=>by
   have:=lS (n - 1) (y :: us) (gh.mpr ⟨h,nd⟩) fun x hx=>by
    rcases bj.mp hx with rfl | hx
    ·exact hy
    ·exact ltm x hx
   simp at this
   omega
  exact ⟨_,rfl,q us es H1 s1 gr pm fun k w hk x hx y hy=>lw k w hk x hx y (.inl hy)⟩
end
theorem xR {α β:Type}{f:α->β}{A B:List β}(h:A.Perm B):∀ L:List α,B=L.map f->∃ L':List α,L'.Perm L/\A=L'.map f:=by
 induction h with
 | nil=>intro L e;exact ⟨L, .refl _,e⟩
 | @cons x A B _ ih=>
  intro L e
  match L,e with
  | y :: L,e=>
   injection e with e1 e2
   obtain ⟨L',p,r⟩:=ih L e2
   exact ⟨y :: L',p.cons y,by rw [r,e1];rfl⟩
 | swap x y l=>
  intro L e
  match L,e with
  | a :: b :: L,e=>
   injection e with e1 e2
   injection e2 with e3 e4
   exact ⟨b :: a :: L, .swap a b L,by rw [e1,e3,e4];rfl⟩
 | trans _ _ ih1 ih2=>
  intro L e
  obtain ⟨L1,p1,r1⟩:=ih2 L e
  obtain ⟨L2,p2,r2⟩:=ih1 L1 r1
  exact ⟨L2,p2.trans p1,r2⟩
theorem aFa {T:List (List Int)}{n:Nat}{D:Int}{us:List Int}{vs:List Nat}{es:List (Nat × Nat)}{m0 m1:Int}{r:List Int}(n3:3<=n)(sy:Sy T n)(ul:us.length=n)(g:Gr vs es)(pv:vs.Perm (ar (n - 1)))
  (l:aCi (fun x y=>cC (at2 T) D (fun k=>us.getD k 0) (x+1) (y+1)) vs (wts (fun x y=>cC (at2 T) D (fun k=>us.getD k 0) (x+1) (y+1)) es))
  (pm:(m0 :: m1 :: r).Perm ((ar (n - 1)).map fun j=>cC (at2 T) D (fun k=>us.getD k 0) 0 (j+1))) (srt:(m0 :: m1 :: r).Pairwise (·<=·)) :
  IsW (at2 T) D (fun k=>us.getD k 0) n (m0+m1+(wts (fun x y=>cC (at2 T) D (fun k=>us.getD k 0) (x+1) (y+1)) es).sum+2*us.sum):=by
 obtain ⟨L,pL,eL⟩:=xR pm _ rfl
 obtain ⟨a,b,L,rfl⟩:∃ a b L',L=a :: b :: L':=by
  match L,eL with
  | [],e=>cases e
  | [_],e=>cases e
  | a :: b :: L,_=>exact ⟨a,b,L,rfl⟩
 have eL:=eL
 rw [df,df] at eL
 injection eL with e0 e1
 injection e1 with e1 e2
 subst e0 e1 e2
 have nd:(a :: b :: L).Nodup:=pL.nodup_iff.mpr ju
 have lt:∀ x∈a :: b :: L,x<n - 1:=fun x hx=>cp.mp (pL.mem_iff.mp hx)
 have ha:=lt a (by simp)
 have hb:=lt b (by simp)
 have hab:a≠b:=fun e=>by rw [e] at nd;simp at nd
 have h1:∀ x∈b :: L,cC (at2 T) D (fun k=>us.getD k 0) 0 (a+1)<=cC (at2 T) D (fun k=>us.getD k 0) 0 (x+1):=fun x hx=>lg srt (by
  rcases bj.mp hx with rfl | hx
  ·exact cg ..
  ·exact av _ (cy.mpr ⟨x,hx,rfl⟩))
 have h2:∀ x∈b :: L,cC (at2 T) D (fun k=>us.getD k 0) 0 (b+1)<=cC (at2 T) D (fun k=>us.getD k 0) 0 (x+1):=fun x hx=>by
  rcases bj.mp hx with rfl | hx
  ·exact rj _
  ·exact lg (zb srt) (cy.mpr ⟨x,hx,rfl⟩)
 have two:∀ x y,x∈a :: b :: L->y∈a :: b :: L->x≠y->cC (at2 T) D (fun k=>us.getD k 0) 0 (a+1)+cC (at2 T) D (fun k=>us.getD k 0) 0 (b+1)<=cC (at2 T) D (fun k=>us.getD k 0) 0 (x+1)+cC (at2 T) D (fun k=>us.getD k 0) 0 (y+1):=fun x y hx hy hne=>by
  rcases bj.mp hx with ex | hx'
  ·rcases bj.mp hy with ey | hy'
   ·exact absurd (ex.trans ey.symm) hne
   ·have:=h2 y hy'
    rw [ex]
    omega
  ·rcases bj.mp hy with ey | hy'
   ·have:=h2 x hx'
    rw [ey]
    omega
   ·have:=h1 x hx'
    have:=h2 y hy'
    omega
 have sm:us.sum=((ar n).map fun k=>us.getD k 0).sum:=by rw [<- ul,nI]
 refine ⟨⟨vs,es,a+1,b+1,⟨g,pv,by omega,by omega,by omega,by omega,by omega⟩,?_⟩,fun vs' es' a' b' o=>?_⟩
 ·unfold co
  rw [<- sm]
  omega
 ·have symm:∀ x y,x<n - 1->y<n - 1->(fun x y=>cC (at2 T) D (fun k=>us.getD k 0) (x+1) (y+1)) x y=(fun x y=>cC (at2 T) D (fun k=>us.getD k 0) (x+1) (y+1)) y x:=fun x y hx hy=>by
   show cC _ _ _ _ _=cC _ _ _ _ _
   unfold cC
   rw [sy (x+1) (y+1) (by omega) (by omega)]
   omega
  have p1:=aBq symm g l pv o.gr o.pm
  have mem:∀ x,1<=x->x<n->x - 1∈a :: b :: L:=fun x h1 h2=>pL.mem_iff.mpr (cp.mpr (by omega))
  have oa:=o.a1
  have ob:=o.b1
  have on:=o.ne
  have p2:=two (a' - 1) (b' - 1) (mem a' o.a1 o.an) (mem b' o.b1 o.bn) (by omega)
  rw [show a' - 1+1=a' by omega,show b' - 1+1=b' by omega] at p2
  unfold co
  rw [<- sm]
  omega
section
variable {K:ae}
def aDe (K:ae):Sp:=fun vs H Q _=>∃ (v:V) (a:Addr) (T:List (List Int)) (n:Nat) (xs:List V) (P:Pr),vs=[v, .ref a]/\Sh K H (lH T) v/\Quad T n/\Bs T n/\Sy T n/\3<=n/\n<=8/\SqT K H a xs/\Rows K H xs (prI P)/\OkP P/\P.length=n/\∀ p D W H',Same H H'->H' p=some (.tup [.int (W / gd W D), .int (D / gd W D)])->0<D->(∀ e∈P,e.2 ∣ D)->IsW (at2 T) D (fun k=>(gD D P).getD k 0) n W->Q (.ref p) H'
theorem aGJ:∀ vs H Q E,aDe K vs H Q E->lW K (jP K) (fQ K) (aCU K) { nx:=fun _ H'=>Q .non H',rt:=Q } (bW ["table","prices","by","price","paid","counts","i","j","ones","found"] vs) H:=by
 intro vs H Q E h
 obtain ⟨v,a,T,n,xs,P,rfl,hS,qT,bT,sy,n3,n8,ha,hr,okp,pl,q⟩:=h
 have hl:xs.length=P.length:=by rw [hr.1];unfold prI;rw [af]
 refine ⟨_,rfl,a,rfl, .inr ⟨⟨_,ha⟩,qS (K:=K) (a:=a) (xs:=xs) (fun i σ' H'=>Same H H'/\i<=xs.length/\∃ (c:Int) (x3:Option V),σ'=[some v,some (.ref a),some (.int c),x3,none,none,none,none,none,none]/\0<c/\c.natAbs<2 ^ (62*i+1)/\∀ e∈P.take i,e.2 ∣ c) ⟨Same.refl _,bh _,1,none,rfl,by decide,by decide,by simp⟩ (fun i σ1 H1 _ ⟨s1,_⟩=>s1.tup ha) (fun i x σ1 H1 hx ⟨s1,_,c,x3,es,c0,cb,cd⟩=>?_) fun σ1 H1 ⟨s1,_,c,x3,es,c0,cb,cd⟩=>?_⟩⟩
 ·subst es
  have hi:i<xs.length:=(ai.mp hx).1
  obtain ⟨e,b,he,rfl,hb⟩:=nZ (hr.same s1) hx
  obtain ⟨b0,b1,_⟩:=okp e (aw he)
  obtain ⟨r1,r2,r3,_⟩:=kK (i:=c) b0
  have ble:e.2 / gd c e.2<=e.2:=nk _ (by omega)
  refine ⟨_,rfl,_,rfl,_,rfl,ixT (j:=1) hb rfl ⟨c,e.2,rfl,b0,cv (show e.2.natAbs<2 ^ 62 by omega) (jy (by decide) (by decide)),fun p H2 s2 hp=>ixT (j:=1) (.of hp) rfl ⟨.inl (.inr ⟨by omega,by omega⟩),s1.trans s2,hi,c*(e.2 / gd c e.2),_,rfl,rq c0 r3,?_,fun x hx'=>?_⟩⟩⟩
  ·have:=aCI cb (show (e.2 / gd c e.2).natAbs<2 ^ 62 by omega)
   rw [show 62*(i+1)+1=62*i+1+62 by omega]
   exact this
  ·rw [fk,he] at hx'
   rcases de.mp hx' with h | h
   ·exact Int.dvd_trans (cd x h) (Int.dvd_mul_right ..)
   ·obtain rfl:x=e:=by simpa using h
    refine ⟨c / gd c x.2,?_⟩
    have:c*(x.2 / gd c x.2)=(gd c x.2*(c / gd c x.2))*(x.2 / gd c x.2):=by rw [<- r1]
    rw [this,fq,h7,<- fq,jj (c / gd c x.2),fq,jj (c / gd c x.2),<- fq,<- r2]
 subst es
 rw [hl] at cb cd
 rw [fz] at cd
 have cb:c.natAbs<2 ^ 600:=lM cb (by omega)
 refine ⟨_,rfl,a,rfl, .inr ⟨⟨_,s1.tup ha⟩,fun A hA=>?_⟩⟩
 refine qS (K:=K) (a:=a) (xs:=xs) (fun i σ' H'=>i<=xs.length/\Same H1 H'/\(∃ x0,σ'=[x0,some (.int c)])/\H' A=some (.lst ((gD c (P.take i)).map V.int))) ⟨bh _,aJ hA _,⟨_,rfl⟩,aF⟩ (fun i σ1 H2 _ ⟨_,s2,_⟩=>(s1.trans s2).tup ha) (fun i x σ1 H2 hx ⟨_,s2,⟨x0,es⟩,hA2⟩=>?_) fun σ1 H2 ⟨_,s2,_,hA2⟩=>?_
 ·subst es
  have hi:i<xs.length:=(ai.mp hx).1
  obtain ⟨e,b,he,rfl,hb⟩:=nZ (hr.same (s1.trans s2)) hx
  obtain ⟨b0,b1,t1⟩:=okp e (aw he)
  refine ⟨_,rfl,ixT (j:=0) hb rfl ⟨_,rfl, .inr ⟨lM t1 (by decide),lM cb (by decide)⟩,_,rfl,ixT (j:=1) hb rfl ⟨_,_,rfl,rfl,⟨b0,cv (show e.2.natAbs<2 ^ 62 by omega) (jy (by decide) (by decide))⟩,_,hA2,?_,hi,eZ hA s2,⟨_,rfl⟩,?_⟩⟩⟩
  ·rw [af]
   unfold gD
   rw [af,e8]
   exact bc (show _<=8 by omega) (by decide)
  ·rw [aF,fk,he]
   unfold gD
   rw [cq,cq]
   have:e.1*c / e.2=e.1*(c / e.2):=Int.mul_ediv_assoc _ (cd e (aw he))
   show some (HO.lst (_++[V.int (e.1*c / e.2)]))=_
   rw [this]
   rfl
 rw [hl,fz] at hA2
 have s02:=s1.trans s2
 have tl:(gD c P).length=n:=by unfold gD;rw [af];exact pl
 generalize hus:gD c P=us at *
 have uat:∀ k,k<n->(us.map V.int)[k]?=some (.int (us.getD k 0)):=fun k hk=>by rw [az,L2.lA (by omega)];rfl
 refine fun d hd=>?_
 have md:=aJ hd (.dT [])
 have hd':(upd H2 d (.dT [])) d=some (.dT []):=aF
 have hA3:=md _ _ hA2
 have s03:=s02.trans md
 have frd:H d=none:=s02.free hd
 have nAd:A≠d:=aR hA2 hd
 generalize upd H2 d (.dT [])=H3 at *
 obtain ⟨va,rs,rfl,hva,hrl,hrow⟩:=id hS.tab
 have hrl:rs.length=n:=hrl.trans qT.len
 refine ⟨_,rfl,va,rs,rfl, .inr (s03.tup hva),n,by rw [hrl];rfl,by omega,fun Fp ys M H4 s4 hFp0 hFp rp gM aM zM=>?_⟩
 have yl:ys.length=M.length:=by rw [rp.1,eO]
 have nFd:Fp≠d:=fun e=>by rw [e,hd'] at hFp0;cases hFp0
 refine ⟨Fp,rfl, .inl ⟨⟨_, .of hFp⟩,?_⟩⟩
 refine cN (K:=K) (a:=Fp) (xs:=ys) (fun i σ' H'=>i<=ys.length/\SameX d H4 H'/\(∃ x6 x7,σ'=[some (.ref va),some (.ref a),some (.int c),x3,some (.ref A),some (.ref d),x6,x7,none,none])/\∃ kvs,H' d=some (.dT kvs)/\kvs.length<=i/\∀ e∈M.take i,oQ kvs (kP e.1 e.2)=some (.int (cC (at2 T) c (fun k=>us.getD k 0) e.1 e.2))) ⟨bh _,SameX.refl _ _,⟨_,_,rfl⟩,[],s4 _ _ hd',bh _,by simp⟩ (fun i σ' H' _ ⟨_,sx,_⟩ => .of (sx _ _ nFd hFp)) (fun i x σ' H' hx ⟨_,sx,⟨x6,x7,es⟩,kvs,k1,k2,k3⟩=>?_) fun σ' H' ⟨_,sx,⟨x6,x7,es⟩,kvs,k1,k2,k3⟩=>?_
 ·subst es
  have hi:i<ys.length:=(ai.mp hx).1
  obtain ⟨e,b,he,rfl,hb⟩:=nN rp hx
  obtain ⟨g1,g2⟩:=gM e (aw he)
  have hd4:=s4 _ _ hd'
  have hb':SqT K H' b [cF e.1,cF e.2]:=by
   rcases hb with (h | ⟨ob,h⟩) | h
   ·exact .inl (.inl (sx _ _ (ne_of h hd4 (fun z=>nomatch z)) h))
   ·exact .inl (.inr ⟨ob,sx _ _ (ne_of h hd4 (fun z=>nomatch z)) h⟩)
   ·exact .inr h
  have hS':Sh K H' (lH T) (.ref va):=hS.same fun c o e=>sx _ _ (aR e frd) (s4 _ _ (s03 _ _ e))
  have hA':H' A=some (.lst (us.map V.int)):=sx _ _ nAd (s4 _ _ hA3)
  refine ⟨b,_,rfl,hb',rfl,cF e.1,[cF e.2],rfl,cF e.2,[],rfl,rfl,?_⟩
  have bb:=bT e.1 e.2 (by omega) g2
  refine oA (t:=0) (si:=6) (sj:=7) rfl rfl rfl hS' qT (by omega) g2 ⟨_,rfl, .inl (.inl ⟨by omega,by omega⟩),_,rfl,_,rfl,ixL (j:=e.1) (.of hA') (uat _ (by omega)) ⟨_,_,rfl,rfl,_,rfl,_,rfl,ixL (j:=e.2) (.of hA') (uat _ g2) ⟨_,_,rfl,rfl,?_⟩⟩⟩
  refine ⟨_,rfl,_,rfl,_,rfl,show 2<=ba by decide,fun kb hkb=>?_⟩
  have mk:=aJ hkb (.tup [cF e.1,cF e.2])
  have nkd:d≠kb:=aR k1 hkb
  refine ⟨d,_,rfl,DPut.t (k:=kP e.1 e.2) (mk _ _ k1) (by rw [aCD];exact aF) (bc (show kvs.length<=100 by omega) (by decide)),hi,fun c o hc e=>?_,⟨_,_,rfl⟩,_,aF,?_,fun e' he'=>?_⟩
  ·rw [aX hc]
   exact mk _ _ (sx _ _ hc e)
  ·have:=iK kvs (kP e.1 e.2) (V.int (at2 T e.1 e.2*c - us.getD e.1 0 - us.getD e.2 0))
   omega
  ·rw [aDO]
   by_cases ce:kP e'.1 e'.2=kP e.1 e.2
   ·rw [if_pos ce]
    unfold kP at ce
    simp at ce
    rw [show e'.1=e.1 by omega,show e'.2=e.2 by omega]
    rfl
   ·rw [if_neg ce]
    rw [fk,he] at he'
    rcases de.mp he' with h | h
    ·exact k3 e' h
    ·obtain rfl:e'=e:=by simpa using h
     exact absurd rfl ce
 subst es
 rw [yl,fz] at k3
 have dc:DC H' d (cC (at2 T) c (fun k=>us.getD k 0)) n:=⟨kvs,k1,fun i j h1 h2=>k3 (i,j) (aM i j h1 h2)⟩
 have s05:Same H H':=fun c o e=>sx _ _ (aR e frd) (s4 _ _ (s03 _ _ e))
 have hA5:H' A=some (.lst (us.map V.int)):=sx _ _ nAd (s4 _ _ hA3)
 refine ⟨_,rfl,va,rs,rfl, .inr (s05.tup hva),_,_,rfl,⟨by decide,by decide,by omega,by omega⟩,fun B hB=>?_⟩
 rw [hrl,show ((n:Int) - 1).toNat=n - 1 by omega]
 refine kZ [0] (((ar (n - 1)).map fun j=>cC (at2 T) c (fun k=>us.getD k 0) 0 (j+1)).map V.int) hB (by rw [af,af,cm];omega) (Emits.cast (nJ (lo:=1) (L:=fun j=>[V.int (cC (at2 T) c (fun k=>us.getD k 0) 0 (j+1))]) (by decide) (by show 0<2;decide) fun j σ2 H6 hj l2 ag2 e0 sx2 _=>?_) ?_) fun σ2 H6 s6 hB6=>?_
 ·have t1:σ2[1]?=some (some (.ref d)):=(ag2 1 (by decide)).trans rfl
  rw [show (1:Int)+(j:Int)=((j+1:Nat):Int) by omega] at e0
  have s56:=dH hB sx2
  refine qF fun R hR=>⟨_,t1,_,e0,show 2<=ba by decide,fun kb hkb=>?_⟩
  have mk:=aJ hkb (.tup [.int 0,cF (j+1)])
  refine ⟨d, .int (cC (at2 T) c (fun k=>us.getD k 0) 0 (j+1)),rfl,?_,hR _ mk⟩
  rw [<- k3 (0,j+1) (aM 0 (j+1) (by omega) (by omega))]
  exact DGet.t (mk _ _ (s56 _ _ k1)) (by rw [aCD];exact aF)
 ·rw [ft]
  have:∀ (L:List Nat) (f:Nat->V),(L.flatMap fun k=>[f k])=L.map f:=fun L f=>by
   induction L with
   | nil=>rfl
   | cons a L ih=>rw [i6,ih];rfl
  rw [this]
  rfl
 refine .inl ⟨B,_,rfl, .inl (.of hB6),by rw [af,cm];omega,fun ms pms srt B2 hB2=>?_⟩
 have ml:ms.length=n - 1:=by rw [pms.length_eq,af,cm]
 obtain ⟨m0,m1,rest,rfl⟩:∃ m0 m1 rest,ms=m0 :: m1 :: rest:=by
  match ms,ml with
  | [],h=>simp at h;omega
  | [_],h=>simp at h;omega
  | a1 :: b1 :: rest,_=>exact ⟨a1,b1,rest,rfl⟩
 have m7:=aJ hB2 (.lst ((m0 :: m1 :: rest).map V.int))
 have hB2':(upd H6 B2 (.lst ((m0 :: m1 :: rest).map V.int))) B2=some (.lst ((m0 :: m1 :: rest).map V.int)):=aF
 have s07:=(s05.trans s6).trans m7
 have hA7:=m7 _ _ (s6 _ _ hA5)
 have hd7:=m7 _ _ (s6 _ _ k1)
 generalize upd H6 B2 (.lst ((m0 :: m1 :: rest).map V.int))=H7 at *
 refine ⟨_,rfl,ixL (j:=0) (.of hB2') rfl ⟨_,rfl,ixL (j:=1) (.of hB2') rfl ?_⟩⟩
 dsimp only [bQ]
 refine ⟨_,rfl,va,rs,rfl, .inr (s07.tup hva), .inr ⟨_,_,rfl,fun pr hpr=>?_⟩⟩
 rw [hrl]
 have m8:=aJ hpr (.rng 1 (n:Int))
 refine .inr ⟨pr,1,_,rfl,aF,⟨by omega,by omega,by omega,by omega,by omega⟩,fun F3 hF3=>?_⟩
 have er:(aCc 1 (n:Int)).map V.int=up1 (ar (n - 1)):=by
  unfold aCc up1
  rw [ft,ft,show ((n:Int) - 1).toNat=n - 1 by omega]
  refine ij fun i _=>?_
  show V.int (1+(i:Int))=V.int ((i+1:Nat):Int)
  congr 1
  omega
 rw [er]
 have m9:=aJ hF3 (.lst (up1 (ar (n - 1))))
 have s79:=m8.trans m9
 refine ⟨_,rfl,F3,d,cC (at2 T) c (fun k=>us.getD k 0),n,rfl,aF,⟨kvs,s79 _ _ hd7,fun i j h1 h2=>k3 (i,j) (aM i j h1 h2)⟩,by omega,n8,fun i j hi hj=>?_,fun us' es' H10 s10 g10 p10 l10=>?_⟩
 ·unfold cC
  rw [sy i j hi hj]
  omega
 have hA10:=s10 _ _ (s79 _ _ hA7)
 have s0A:=(s07.trans s79).trans s10
 refine ⟨_,rfl,_,rfl,A,us,rfl, .inl (.of hA10), .inl (.inl ⟨by decide,by decide⟩),?_⟩
 dsimp only [bQ]
 have hW:=aFa n3 sy tl g10 p10 l10 pms srt
 refine ⟨_,rfl,_,c,rfl,c0,lM cb (by decide),fun p H11 s11 hp=>?_⟩
 exact q p c _ H11 (s0A.trans s11) hp c0 cd (by rw [hus];exact hW)
end
theorem aIE {e:Nat × Nat}(h:e.1≠e.2):(mm e).1<(mm e).2:=by unfold mm;show min e.1 e.2<max e.1 e.2;omega
theorem aID {vs:List Nat}{es:List (Nat × Nat)}(g:Gr vs es):(es.map mm).Nodup:=by
 induction g with
 | one r=>simp
 | @more vs' es' p c g hp hc ih=>
  rw [cq,rn]
  refine ⟨ih,by simp,fun x hx y hy e=>?_⟩
  obtain ⟨e1,he1,rfl⟩:=cy.mp hx
  have hy:y=mm (p,c):=by simpa using hy
  rw [hy] at e
  obtain ⟨h1,h2,_⟩:=g.mem e1 he1
  have h3:c≠e1.1:=fun z=>hc (z ▸ h1)
  have h4:c≠e1.2:=fun z=>hc (z ▸ h2)
  have e5:(min e1.1 e1.2,max e1.1 e1.2)=(min p c,max p c):=e
  injection e5 with e6 e7
  omega
variable {n:Nat}{vs:List Nat}{es L:List (Nat × Nat)}{a b:Nat}
theorem One.lt (o:One n vs es a b):∀ e∈es,e.1+1<n/\e.2+1<n/\e.1≠e.2:=fun e he=>by
 obtain ⟨h1,h2,h3⟩:=o.gr.mem e he
 have h1:=cp.mp (o.pm.mem_iff.mp h1)
 have h2:=cp.mp (o.pm.mem_iff.mp h2)
 exact ⟨by omega,by omega,h3⟩
theorem aDA (o:One n vs es a b):∀ e∈hgL es a b,e.1<e.2/\e.2<n:=fun e he=>by
 have oa:=o.a1
 have ob:=o.b1
 unfold hgL at he
 rcases bj.mp he with rfl | he
 ·exact ⟨o.a1,o.an⟩
 rcases bj.mp he with rfl | he
 ·exact ⟨o.b1,o.bn⟩
 obtain ⟨x,hx,rfl⟩:=cy.mp he
 obtain ⟨h1,h2,h3⟩:=o.lt x hx
 have:=aIE h3
 refine ⟨by show (mm x).1+1<(mm x).2+1;omega,?_⟩
 show max x.1 x.2+1<n
 omega
theorem aIi (o:One n vs es a b):(hgL es a b).Nodup:=by
 have h:=aID o.gr
 unfold hgL
 have on:=o.ne
 refine gh.mpr ⟨fun hm=>?_,gh.mpr ⟨fun hm=>?_,?_⟩⟩
 ·rcases bj.mp hm with e | hm
  ·injection e with _ e
   exact on e
  ·obtain ⟨x,hx,e⟩:=cy.mp hm
   injection e with e _
   omega
 ·obtain ⟨x,hx,e⟩:=cy.mp hm
  injection e with e _
  omega
 ·rw [ic,j6] at *
  refine h.imp fun hn e=>hn ?_
  injection e with e1 e2
  exact Ay (by omega) (by omega)
def dn (e:Nat × Nat):Nat × Nat:=(e.1 - 1,e.2 - 1)
def oth (L:List (Nat × Nat)):List (Nat × Nat):=(L.filter fun e=>decide (0<e.1)).map dn
theorem aHH:oth (hgL es a b)=es.map mm:=by
 unfold oth hgL
 rw [xq (by simp),xq (by simp),Aq.mpr,ft]
 ·refine ij fun e _=>?_
  rfl
 ·intro e he
  obtain ⟨x,hx,rfl⟩:=cy.mp he
  simp
theorem aGP {x y:Nat × Nat}(hx:0<x.1/\x.1<x.2)(hy:0<y.1/\y.1<y.2):fO [((dn x).1:Int),((dn x).2:Int)] [((dn y).1:Int),((dn y).2:Int)]=fO [(x.1:Int),(x.2:Int)] [(y.1:Int),(y.2:Int)]:=by
 have e1:(((dn x).1:Nat):Int)=(x.1:Int) - 1:=by show ((x.1 - 1:Nat):Int)=_;omega
 have e2:(((dn x).2:Nat):Int)=(x.2:Int) - 1:=by show ((x.2 - 1:Nat):Int)=_;omega
 have e3:(((dn y).1:Nat):Int)=(y.1:Int) - 1:=by show ((y.1 - 1:Nat):Int)=_;omega
 have e4:(((dn y).2:Nat):Int)=(y.2:Int) - 1:=by show ((y.2 - 1:Nat):Int)=_;omega
 rw [e1,e2,e3,e4]
 simp only [fO]
 by_cases c:(x.1:Int)=(y.1:Int)
 ·rw [if_pos (by omega),if_pos c]
  by_cases c2:(x.2:Int)=(y.2:Int)
  ·rw [if_pos (by omega),if_pos c2]
  ·rw [if_neg (by omega),if_neg c2]
   congr 1
   apply propext
   omega
 ·rw [if_neg (by omega),if_neg c]
  congr 1
  apply propext
  omega
theorem aGv (o:One n vs es a b)(n3:3<=n)(p:L.Perm (hgL es a b))(srt:(prN L).Pairwise fun a b=>fO b a=false):Tr (n - 1) vs es (oth L):=by
 refine ⟨o.gr,o.pm,?_,?_⟩
 ·rw [<- aHH (es:=es) (a:=a) (b:=b)]
  unfold oth
  exact (p.filter _).map _
 ·unfold prN oth
  unfold prN at srt
  rw [ft,j6]
  rw [j6] at srt
  have s2:=srt.filter (fun e=>decide (0<e.1))
  refine s2.imp_of_mem fun {x y} hx hy h=>?_
  have hx':=of_decide_eq_true (j7.mp hx).2
  have hy':=of_decide_eq_true (j7.mp hy).2
  have gx:=aDA o x (p.mem_iff.mp (j7.mp hx).1)
  have gy:=aDA o y (p.mem_iff.mp (j7.mp hy).1)
  exact (aGP ⟨hy',gy.1⟩ ⟨hx',gx.1⟩).trans h
theorem aHG {T:List (List Int)}{D:Int}{u:Nat->Int}(sy:Sy T n)(o:One n vs es a b):((hgL es a b).map fun e=>cC (at2 T) D u e.1 e.2).sum=(wts (fun i j=>cC (at2 T) D u (i+1) (j+1)) es).sum+cC (at2 T) D u 0 a+cC (at2 T) D u 0 b:=by
 have e:(es.map fun e=>((mm e).1+1,(mm e).2+1)).map (fun e=>cC (at2 T) D u e.1 e.2)=wts (fun i j=>cC (at2 T) D u (i+1) (j+1)) es:=by
  unfold wts
  rw [ft]
  refine ij fun e he=>?_
  obtain ⟨h1,h2,h3⟩:=o.lt e he
  show cC (at2 T) D u (min e.1 e.2+1) (max e.1 e.2+1)=cC (at2 T) D u (e.1+1) (e.2+1)
  rcases sv e.1 e.2 with c | c
  ·rw [ka c,qa c]
  ·rw [qb c,qv c]
   unfold cC
   rw [sy (e.1+1) (e.2+1) (by omega) (by omega)]
   omega
 unfold hgL
 rw [df,df,jo,jo,e]
 show cC (at2 T) D u 0 a+(cC (at2 T) D u 0 b+_)=_
 omega
def pA (P:Pr) (i:Nat):Int × Int:=P.getD i (0,1)
def cv1 (T:List (List Int)) (P:Pr) (e:Nat × Nat):Pr:=[(0 - (pA P e.1).1,(pA P e.1).2),(0 - (pA P e.2).1,(pA P e.2).2),(at2 T e.1 e.2,1)]
def cvL (T:List (List Int)) (P:Pr) (L:List (Nat × Nat)):Pr:=L.flatMap (cv1 T P)
theorem zR {D:Int}{P:Pr}{i:Nat}(h:i<P.length):(gD D P).getD i 0=(pA P i).1*(D / (pA P i).2):=by
 unfold gD pA
 rw [aj,az,aj,ah h]
 rfl
theorem tK {D:Int}{P Q:Pr}:gD D (P++Q)=gD D P++gD D Q:=by unfold gD;rw [cq]
theorem aEx {T:List (List Int)}{P:Pr}{D:Int}:∀ {L:List (Nat × Nat)},(∀ e∈L,e.1<P.length/\e.2<P.length)->(gD D (cvL T P L)).sum=(L.map fun e=>cC (at2 T) D (fun k=>(gD D P).getD k 0) e.1 e.2).sum
 | [],_=>rfl
 | e :: L,h=>by
  have ih:=aEx (T:=T) (P:=P) (D:=D) (L:=L) fun x hx=>h x (av _ hx)
  have he:=h e (by simp)
  unfold cvL at ih ⊢
  rw [i6,tK,qw,ih,df,jo]
  congr 1
  show _=at2 T e.1 e.2*D - (gD D P).getD e.1 0 - (gD D P).getD e.2 0
  rw [zR he.1,zR he.2]
  show (0 - (pA P e.1).1)*(D / (pA P e.1).2)+((0 - (pA P e.2).1)*(D / (pA P e.2).2)+(at2 T e.1 e.2*(D / 1)+0))=_
  rw [Bk,Bk,Int.zero_mul,Int.zero_mul,yi]
  omega
theorem aDG {T:List (List Int)}{P:Pr}{D W:Int}(sy:Sy T n)(pl:P.length=n)(o:One n vs es a b)(p:L.Perm (hgL es a b))(hW:W=co (at2 T) D (fun k=>(gD D P).getD k 0) n es a b):(gD D (cvL T P L++P++P)).sum=W:=by
 have hl:∀ e∈L,e.1<P.length/\e.2<P.length:=fun e he=>by
  have:=aDA o e (p.mem_iff.mp he)
  omega
 have e1:(L.map fun e=>cC (at2 T) D (fun k=>(gD D P).getD k 0) e.1 e.2).sum=((hgL es a b).map fun e=>cC (at2 T) D (fun k=>(gD D P).getD k 0) e.1 e.2).sum:=aAc (p.map _)
 have tl:(gD D P).length=n:=by unfold gD;rw [af];exact pl
 have sm:(gD D P).sum=((ar n).map fun k=>(gD D P).getD k 0).sum:=by rw [<- tl,nI]
 rw [tK,tK,qw,qw,aEx hl,e1,aHG sy o,hW]
 unfold co
 rw [<- sm]
 omega
theorem aIQ {T:List (List Int)}{P:Pr}{D:Int}(bT:Bs T n)(okp:OkP P)(pl:P.length=n)(dv:∀ e∈P,e.2 ∣ D)(hL:∀ e∈L,e.1<e.2/\e.2<n):OkP (cvL T P L++P++P)/\∀ e∈cvL T P L++P++P,e.2 ∣ D:=by
 have pm:∀ i,i<n->pA P i∈P:=fun i hi=>by
  unfold pA
  rw [aj,ah (by omega)]
  exact fb _
 have key:∀ e∈cvL T P L++P++P,(0<e.2/\e.2<2 ^ 62/\e.1.natAbs<2 ^ 300)/\e.2 ∣ D:=fun e he=>by
  rcases de.mp he with he | he
  ·rcases de.mp he with he | he
   ·obtain ⟨t,ht,he⟩:=km.mp he
    obtain ⟨g1,g2⟩:=hL t ht
    have h1:=okp _ (pm t.1 (by omega))
    have h2:=okp _ (pm t.2 g2)
    have bb:=bT t.1 t.2 (by omega) g2
    unfold cv1 at he
    rcases bj.mp he with rfl | he
    ·exact ⟨⟨h1.1,h1.2.1,by show (0 - (pA P t.1).1).natAbs<2 ^ 300;have:=h1.2.2;omega⟩,show (pA P t.1).2 ∣ D from dv _ (pm t.1 (by omega))⟩
    rcases bj.mp he with rfl | he
    ·exact ⟨⟨h2.1,h2.2.1,by show (0 - (pA P t.2).1).natAbs<2 ^ 300;have:=h2.2.2;omega⟩,show (pA P t.2).2 ∣ D from dv _ (pm t.2 g2)⟩
    ·rw [bq.mp he]
     exact ⟨⟨show (0:Int)<1 by decide,show (1:Int)<2 ^ 62 by decide,by show (at2 T t.1 t.2).natAbs<2 ^ 300;exact bc (show _<=1000000 by omega) (by decide)⟩,Int.one_dvd D⟩
   ·exact ⟨okp e he,dv e he⟩
  ·exact ⟨okp e he,dv e he⟩
 exact ⟨fun e he=>(key e he).1,fun e he=>(key e he).2⟩
theorem aCK {T:List (List Int)}{P:Pr}{D D' W W':Int}(n3:3<=n)(pl:P.length=n)(okp:OkP P)(D0:0<D)(D0':0<D')(d:∀ e∈P,e.2 ∣ D)(d':∀ e∈P,e.2 ∣ D')(hW:IsW (at2 T) D (fun k=>(gD D P).getD k 0) n W)(hW':IsW (at2 T) D' (fun k=>(gD D' P).getD k 0) n W'):W' / gd W' D'=W / gd W D/\D' / gd W' D'=D / gd W D:=by
 refine aEF D0' D0 ?_
 refine aFG (g:=1) (z:=0) n3 (by decide) D0 D0' (fun i hi=>?_) hW hW'
 have hm:pA P i∈P:=by
  unfold pA
  rw [aj,ah (by omega)]
  exact fb _
 show 1*D*(gD D' P).getD i 0=1*D'*(gD D P).getD i 0+0
 rw [zR (by omega),zR (by omega)]
 have h0:=(okp _ hm).1
 obtain ⟨k,hk⟩:=d _ hm
 obtain ⟨k',hk'⟩:=d' _ hm
 generalize (pA P i).1=x at *
 generalize (pA P i).2=y at *
 rw [hk,hk',w8 _ (by omega),w8 _ (by omega),Int.one_mul,Int.one_mul,Int.add_zero,fq,fq,h7 k x k',h7 k' x k,jj k k']
theorem aGQ {e:Nat × Nat}(h1:e.1<e.2)(h2:e.2<8):[(e.1:Int),(e.2:Int)]∈K28:=by
 unfold K28
 exact km.mpr ⟨e.2,cp.mpr h2,cy.mpr ⟨e.1,cp.mpr h1,rfl⟩⟩
theorem aHp {L:List (Nat × Nat)}(h:L.Nodup):(prN L).Nodup:=by
 unfold prN
 rw [ic,j6]
 refine (ic.mp h).imp fun hn e=>hn ?_
 injection e with e1 e2
 injection e2 with e2 _
 exact Ay (by omega) (by omega)
section
variable {K:ae}
structure aIZ (T:List (List Int))(n:Nat)(P:Pr)(D W:Int)(vs:List Nat)(es:List (Nat × Nat))(a b:Nat)(L:List (Nat × Nat)):Prop where
 pL:L.Perm (hgL es a b)
 srt:(prN L).Pairwise (fun a b=>fO b a=false)
 D0:0<D
 Db:D.natAbs<2 ^ 600
 dv:∀ e∈P,e.2 ∣ D
 one:One n vs es a b
 eW:W=co (at2 T) D (fun k=>(gD D P).getD k 0) n es a b
 isW:IsW (at2 T) D (fun k=>(gD D P).getD k 0) n W
structure ToldAt (K:ae)(H:Hp)(tp f tl:Addr)(W D:Int)(ys:List V)(L:List (Nat × Nat)):Prop where
 tp:H tp=some (.tup [.ref f, .ref tl])
 f:H f=some (.tup [.int (W / gd W D), .int (D / gd W D)])
 tl:H tl=some (.lst ys)
 rows:Rows K H ys (prN L)
theorem ToldAt.same {H H':Hp}{tp f tl:Addr}{W D:Int}{ys:List V}{L:List (Nat × Nat)}(h:ToldAt K H tp f tl W D ys L)(s:Same H H'):ToldAt K H' tp f tl W D ys L:=⟨s _ _ h.tp,s _ _ h.f,s _ _ h.tl,h.rows.same s⟩
def aHU (K:ae):Sp:=fun vs H Q _=>∃ (v:V) (a tp f tl:Addr) (T:List (List Int)) (n:Nat) (xs:List V) (P:Pr) (D W:Int) (us:List Nat) (es L:List (Nat × Nat)) (a1 b1:Nat) (ys:List V),vs=[v, .ref a, .ref tp]/\Sh K H (lH T) v/\Quad T n/\Bs T n/\Sy T n/\3<=n/\n<=8/\SqT K H a xs/\Rows K H xs (prI P)/\OkP P/\P.length=n/\ToldAt K H tp f tl W D ys L/\aIZ T n P D W us es a1 b1 L/\∀ H',Same H H'->Q (.bl true) H'
structure aHh (K:ae)(H0 H:Hp)(F:Addr)(P:Pr):Prop where
 sm:Same H0 H
 ex:∃ zs,H F=some (.lst zs)/\Rows K H zs (prI P)
theorem zP {H0 H:Hp}{F:Addr}{P:Pr}{x y:Int}(g:aHh K H0 H F P)(fr:H0 F=none){u:Addr}(hu:H u=none){zs:List V}(hz:H F=some (.lst zs))(hr:Rows K H zs (prI P)):aHh K H0 (upd (upd H u (.tup [.int x, .int y])) F (.lst (zs++[.ref u]))) F (P++[(x,y)]):=by
 have mu:=aJ hu (.tup [.int x, .int y])
 refine ⟨eZ fr (g.sm.trans mu),_,aF,?_⟩
 unfold prI
 rw [cq]
 exact Rows.put (Rows.snoc (hr.same mu) (.of aF)) (mu _ _ hz)
theorem aIs:∀ vs H Q E,aHU K vs H Q E->kJ K (aDe K) (aIe K) (aAT K) (aHX K) (yU K) { nx:=fun _ H'=>Q .non H',rt:=Q } (bW ["table","prices","told","bound","ties","many","others","counted_v","i","j","place","whole"] vs) H:=by
 intro vs H Q E h
 obtain ⟨v,a,tp,f,tl,T,n,xs,P,D,W,us,es,L,a1,b1,ys,rfl,hS,qT,bT,sy,n3,n8,ha,hr,okp,pl,ta,td,q⟩:=h
 obtain ⟨va,rs,rfl,hva,hrl,_⟩:=id hS.tab
 have hrl:rs.length=n:=hrl.trans qT.len
 have yl:ys.length=L.length:=by rw [ta.rows.1,eO]
 have esl:es.length+2=n:=by
  have:=td.one.gr.len
  rw [td.one.pm.length_eq,cm] at this
  omega
 have ll:L.length=n:=by
  rw [td.pL.length_eq]
  unfold hgL
  rw [cw,cw,af]
  omega
 have hL:∀ e∈L,e.1<e.2/\e.2<n:=fun e he=>aDA td.one e (td.pL.mem_iff.mp he)
 have shl:∀ {H'},Same H H'->Sh K H' (.lst ((prN L).map fun r=>Dt.tup (r.map Dt.int))) (.ref tl):=fun s=>(ta.rows.same s).sh (.of (s _ _ ta.tl))
 have r0:=Same.refl H
 refine ⟨_,rfl, .ref tp, .tup [nC (W / gd W D) (D / gd W D), .lst ((prN L).map fun r=>Dt.tup (r.map Dt.int))],"tuple",rfl,by decide,⟨tp,_,rfl, .of ta.tp,_,_,rfl,jO (.of ta.f),_,_,rfl,shl r0,rfl⟩,_,rfl,cL rfl ?_⟩
 refine ⟨_,rfl,tp,_,rfl, .inr (.of ta.tp), .int 2, .int 2,bh _,rfl,rfl,_,rfl,cL rfl ?_⟩
 refine ⟨_,rfl,ixT (j:=1) (.of ta.tp) rfl ⟨.ref tl,_,"list",rfl,by decide,shl r0,_,rfl,cL rfl ?_⟩⟩
 refine ⟨_,rfl,tp,_,rfl, .of ta.tp,rfl, .ref f,[.ref tl],rfl, .ref tl,[],rfl,rfl,?_⟩
 refine ⟨_,rfl,va,rs,rfl, .inr hva,?_⟩
 rw [hrl]
 refine ⟨_,rfl,f,W,D,rfl, .of ta.f,td.D0,td.Db,fun H1 s1=>⟨_,rfl,cL rfl ?_⟩⟩
 refine ⟨_,rfl,tl,ys,rfl, .inl (.of (s1 _ _ ta.tl)),_,rfl, .int (ys.length:Int), .int (n:Int),bh _,rfl,rfl,_,rfl,cL ?_ ?_⟩
 ·show (!eqD (.int (ys.length:Int)) (.int (n:Int)))=false
  rw [eqD,yl,ll]
  simp
 refine ⟨_,rfl,tl,rfl, .inl ⟨⟨_, .of (s1 _ _ ta.tl)⟩,fun A hA=>?_⟩⟩
 refine cN (K:=K) (a:=tl) (xs:=ys) (fun i σ' H'=>i<=ys.length/\Same H1 H'/\(∃ x0,σ'=[x0,some (.int (n:Int))])/\H' A=some (.lst (dj i (.bl true)))) ⟨bh _,aJ hA _,⟨_,rfl⟩,aF⟩ (fun i σ2 H2 _ ⟨_,s2,_⟩ => .of (s2 _ _ (s1 _ _ ta.tl))) (fun i x σ2 H2 hx ⟨_,s2,⟨x0,es2⟩,hA2⟩=>?_) fun σ2 H2 ⟨_,s2,⟨x0,es2⟩,hA2⟩=>?_
 ·subst es2
  have hi:i<ys.length:=(ai.mp hx).1
  obtain ⟨e,b,he,rfl,hb⟩:=nN ((ta.rows.same s1).same s2) hx
  obtain ⟨g1,g2⟩:=hL e (aw he)
  refine ⟨_,rfl,_,rfl,n,b,e.1,e.2,rfl,hb,g1,g2,fun H3 s3=>⟨_,s3 _ _ hA2,bc (show _<=9 by rw [kr];omega) (by decide),hi,eZ hA (s2.trans s3),⟨_,rfl⟩,?_⟩⟩
  rw [aF,List.replicate_succ']
 have s02:=s1.trans s2
 refine ⟨A,_,rfl, .inl (.of hA2),rfl,?_,_,rfl,cL ?_ ?_⟩
 ·rw [fg]
  intro x hx
  rw [(List.mem_replicate.mp hx).2]
  rfl
 ·show (if false=true then _ else inV (.bl false) (dj ys.length (.bl true)))=false
  rw [if_neg (by decide)]
  unfold inV
  rw [w5]
  intro x hx
  rw [(List.mem_replicate.mp hx).2]
  decide
 have t2:=ta.same s02
 refine ⟨_,rfl,_,rfl,tl,ys,prN L,rfl, .of t2.tl,t2.rows,fun r hr=>?_,fun zs R' srt nd mem H3 s3 rw3 l hl=>?_⟩
 ·obtain ⟨e,he,rfl⟩:=cy.mp hr
  obtain ⟨g1,g2⟩:=hL e he
  exact aGQ g1 (by omega)
 have m4:=aJ hl (.lst zs)
 obtain rfl:R'=prN L:=by
  refine pS ((kg nd (aHp (td.pL.nodup_iff.mpr (aIi td.one)))).mpr mem) td.srt srt
 have s34:=s3.trans m4
 refine ⟨_,_,zI (prN L),(t2.rows.same s34).sh (.of (s34 _ _ t2.tl)),(rw3.same m4).sh (.of aF),_,rfl,cL (by rw [mL];rfl) ?_⟩
 have t4:=t2.same s34
 have s04:=s02.trans s34
 generalize upd H3 l (.lst zs)=H4 at *
 refine ⟨_,rfl,tl,rfl, .inl ⟨⟨_, .of t4.tl⟩,fun B hB=>?_⟩⟩
 refine cN (K:=K) (a:=tl) (xs:=ys) (fun i σ' H'=>i<=ys.length/\Same H4 H'/\(∃ x0 x1,σ'=[x0,x1])/\∃ zs,H' B=some (.lst zs)/\Rows K H' zs (prN (oth (L.take i)))) ⟨bh _,aJ hB _,⟨_,_,rfl⟩,[],aF,Rows.nil⟩ (fun i σ2 H2 _ ⟨_,s2,_⟩ => .of (s2 _ _ t4.tl)) (fun i x σ5 H5 hx ⟨_,s5,⟨x0,x1,es5⟩,zs5,hB5,r5⟩=>?_) fun σ5 H5 ⟨_,s5,_,zs5,hB5,r5⟩=>?_
 ·subst es5
  have hi:i<ys.length:=(ai.mp hx).1
  obtain ⟨e,b,he,rfl,hb⟩:=nN (t4.rows.same s5) hx
  obtain ⟨g1,g2⟩:=hL e (aw he)
  refine ⟨b,_,rfl,hb,rfl,cF e.1,[cF e.2],rfl,cF e.2,[],rfl,rfl,?_⟩
  refine ⟨_,rfl,_,_,rfl,rfl,_,rfl,?_⟩
  have eo:oth (L.take (i+1))=oth (L.take i)++if 0<e.1 then [dn e] else []:=by
   unfold oth
   rw [fk,he,List.filter_append,cq]
   congr 1
   by_cases c:0<e.1
   ·rw [if_pos c]
    simp [c]
   ·rw [if_neg c]
    simp [c]
  by_cases c:0<e.1
  ·refine iI (decide_eq_true (show (e.1:Int) > 0 by omega)) ⟨_,rfl,_,_,rfl,rfl,_,rfl,_,_,rfl,rfl,show 2<=ba by decide,fun u hu=>?_⟩
   have mu:=aJ hu (.tup [V.int ((e.1:Int) - 1),V.int ((e.2:Int) - 1)])
   refine ⟨zs5,mu _ _ hB5,bc (show zs5.length<=9 by rw [r5.1,eO];unfold oth;rw [af];have:=List.length_filter_le (fun e:Nat × Nat=>decide (0<e.1)) (L.take i);rw [e8] at this;omega) (by decide),hi,eZ hB (s5.trans mu),⟨_,_,rfl⟩,_,aF,?_⟩
   rw [eo,if_pos c,yD]
   refine Rows.put (Rows.snoc (r5.same mu) (.of ?_)) (mu _ _ hB5)
   rw [aF]
   have e1:(((dn e).1:Nat):Int)=(e.1:Int) - 1:=by show ((e.1 - 1:Nat):Int)=_;omega
   have e2:(((dn e).2:Nat):Int)=(e.2:Int) - 1:=by show ((e.2 - 1:Nat):Int)=_;omega
   show some (HO.tup [V.int ((e.1:Int) - 1),V.int ((e.2:Int) - 1)])=some (HO.tup [V.int ((dn e).1:Int),V.int ((dn e).2:Int)])
   rw [e1,e2]
  ·refine cL (decide_eq_false (show ¬ (e.1:Int) > 0 by omega)) ⟨hi,s5,⟨_,_,rfl⟩,zs5,hB5,?_⟩
   rw [eo,if_neg c,lx]
   exact r5
 rw [yl,fz] at r5
 have tr:=aGv td.one n3 td.pL td.srt
 have ol:(oth L).length=n - 2:=by have:=tr.len;omega
 have t5:=t4.same s5
 have s05:=s04.trans s5
 refine ⟨_,rfl,B,zs5,rfl, .inl (.of hB5),_,rfl,_,_,rfl,rfl, .int (zs5.length:Int), .int ((n:Int) - 2),bh _,rfl,rfl,_,rfl,cL ?_ ?_⟩
 ·show (!eqD (.int (zs5.length:Int)) (.int ((n:Int) - 2)))=false
  rw [eqD,r5.1,eO,ol,show (((n - 2:Nat)):Int)=(n:Int) - 2 by omega]
  simp
 refine ⟨_,rfl,_,_,rfl,rfl,_,rfl,n - 1,B,us,es,oth L,zs5,by show [V.int ((n:Int) - 1), .ref B]=[V.int ((n - 1:Nat):Int), .ref B];rw [show ((n - 1:Nat):Int)=(n:Int) - 1 by omega],hB5,r5,tr,by omega,by omega,fun H6 s6=>⟨_,rfl,cL rfl ?_⟩⟩
 have t6:=t5.same s6
 have s06:=s05.trans s6
 refine ⟨show 0<=ba by decide,fun F hF=>?_⟩
 have mF:=aJ hF (.lst [])
 have hF':(upd H6 F (.lst [])) F=some (.lst []):=aF
 generalize hG:upd H6 F (.lst [])=G at *
 refine ⟨_,rfl,tl,rfl, .inl ⟨⟨_, .of (mF _ _ t6.tl)⟩,?_⟩⟩
 refine cN (K:=K) (a:=tl) (xs:=ys) (fun i σ' H'=>i<=ys.length/\(∃ x8 x9 x10,σ'=[some (.ref va),some (.ref a),some (.ref tp),some (.ref f),some (.ref tl),some (.int (n:Int)),some (.ref B),some (.ref F),x8,x9,x10,none])/\aHh K H6 H' F (cvL T P (L.take i))) ⟨bh _,⟨_,_,_,rfl⟩,⟨mF,[],hF',Rows.nil⟩⟩ (fun i σ2 H2 _ ⟨_,_,g⟩ => .of (g.sm _ _ t6.tl)) (fun i x σ7 H7 hx ⟨_,⟨x8,x9,x10,es7⟩,g7⟩=>?_) fun σ7 H7 ⟨_,⟨x8,x9,x10,es7⟩,g7⟩=>?_
 ·subst es7
  have hi:i<ys.length:=(ai.mp hx).1
  obtain ⟨e,b,he,rfl,hb⟩:=nN (t6.rows.same g7.sm) hx
  obtain ⟨g1,g2⟩:=hL e (aw he)
  have ec:cvL T P (L.take (i+1))=cvL T P (L.take i)++cv1 T P e:=by
   unfold cvL
   rw [fk,he,Af]
   simp
  have len3:∀ k,(cvL T P (L.take k)).length<=3*k:=fun k=>by
   unfold cvL
   have:∀ M:List (Nat × Nat),(M.flatMap (cv1 T P)).length=3*M.length:=fun M=>by
    induction M with
    | nil=>rfl
    | cons a M ih=>rw [i6,au,ih,cw];show 3+_=_;omega
   rw [this,e8]
   omega
  refine ⟨b,_,rfl,hb,rfl,cF e.1,[cF e.2],rfl,cF e.2,[],rfl,rfl,?_⟩
  refine ⟨_,rfl,_,rfl,show 2<=ba by decide,fun w hw=>?_⟩
  have mw:=aJ hw (.tup [cF e.1,cF e.2])
  have hw':(upd H7 w (.tup [cF e.1,cF e.2])) w=some (.tup [cF e.1,cF e.2]):=aF
  have g8:aHh K H6 (upd H7 w (.tup [cF e.1,cF e.2])) F (cvL T P (L.take i)):=by
   obtain ⟨zs,z1,z2⟩:=g7.ex
   exact ⟨g7.sm.trans mw,zs,mw _ _ z1,z2.same mw⟩
  generalize upd H7 w (.tup [cF e.1,cF e.2])=H8 at *
  have nwF:w≠F:=fun z=>by
   obtain ⟨zs,z1,_⟩:=g8.ex
   rw [<- z,hw'] at z1
   cases z1
  refine ⟨w,rfl, .inr ⟨⟨_, .of hw'⟩,?_⟩⟩
  refine qS (K:=K) (a:=w) (xs:=[cF e.1,cF e.2]) (fun k σ' H'=>k<=2/\(∃ x10,σ'=[some (.ref va),some (.ref a),some (.ref tp),some (.ref f),some (.ref tl),some (.int (n:Int)),some (.ref B),some (.ref F),some (cF e.1),some (cF e.2),x10,none])/\H' w=some (.tup [cF e.1,cF e.2])/\aHh K H6 H' F (cvL T P (L.take i)++(cv1 T P e).take k)) ⟨bh _,⟨_,rfl⟩,hw',by rw [zu,lx];exact g8⟩ (fun k σ2 H2 _ ⟨_,_,z,_⟩ => .of z) (fun k x σ9 H9 hx9 ⟨_,⟨y10,es9⟩,hw9,g9⟩=>?_) fun σ9 H9 ⟨_,⟨y10,es9⟩,hw9,g9⟩=>?_
  ·subst es9
   have hk:k<2:=(ai.mp hx9).1
   obtain ⟨pi,hpi,ex,ek⟩:∃ pi,pi<n/\x=cF pi/\(cv1 T P e).take (k+1)=(cv1 T P e).take k++[(0 - (pA P pi).1,(pA P pi).2)]:=by
    match k,hk with
    | 0,_=>exact ⟨e.1,by omega,(cu hx9).symm,rfl⟩
    | 1,_=>exact ⟨e.2,g2,(cu hx9).symm,rfl⟩
   subst ex
   obtain ⟨zs,z1,z2⟩:=g9.ex
   have hx':=(s06.trans g9.sm).tup ha
   have hr':=hr.same (s06.trans g9.sm)
   obtain ⟨row,hrow⟩:∃ r,xs[pi]?=some r:=by
    have:pi<xs.length:=by rw [hr.1];unfold prI;rw [af];omega
    exact ⟨_,ah this⟩
   obtain ⟨pe,pb,hpe,rfl,hpb⟩:=nZ hr' hrow
   have epA:pA P pi=pe:=by unfold pA;rw [aj,hpe];rfl
   refine ⟨_,rfl, .inl ⟨rfl,_, .of z1⟩,_,rfl,_,rfl,ixT (j:=pi) hx' hrow (ixT (j:=0) hpb rfl ⟨_,_,rfl,rfl,_,rfl,_,rfl,ixT (j:=pi) hx' hrow (ixT (j:=1) hpb rfl ⟨show 2<=ba by decide,fun u hu=>?_⟩)⟩)⟩
   have mu:=aJ hu (.tup [V.int (0 - pe.1), .int pe.2])
   have hz9:zs.length<=100:=by
    rw [z2.1]
    unfold prI
    rw [af,au,e8]
    have:=len3 i
    omega
   refine ⟨F,zs,_,rfl,rfl,mu _ _ z1,bc hz9 (by decide),hk,⟨_,rfl⟩,?_,?_⟩
   ·rw [aX nwF]
    exact mu _ _ hw9
   ·rw [ek,epA,<- gg]
    exact zP g9 hF hu z1 z2
  ·subst es9
   obtain ⟨zs,z1,z2⟩:=g9.ex
   have hS9:=hS.same (s06.trans g9.sm)
   refine ⟨_,rfl, .inl ⟨rfl,_, .of z1⟩,oA (t:=0) (si:=8) (sj:=9) rfl rfl rfl hS9 qT (by omega) g2 ⟨show 2<=ba by decide,fun u hu=>?_⟩⟩
   have mu:=aJ hu (.tup [V.int (at2 T e.1 e.2), .int 1])
   have hz9:zs.length<=100:=by
    rw [z2.1]
    unfold prI
    rw [af,au,e8]
    have:=len3 i
    simp
    omega
   refine ⟨F,zs,_,rfl,rfl,mu _ _ z1,bc hz9 (by decide),hi,⟨_,_,_,rfl⟩,?_⟩
   have e3:cv1 T P e=(cv1 T P e).take 2++[(at2 T e.1 e.2,1)]:=rfl
   rw [ec,e3,<- gg]
   exact zP g9 hF hu z1 z2
 subst es7
 rw [yl,fz] at g7
 obtain ⟨zs,z1,z2⟩:=g7.ex
 have s07:=s06.trans g7.sm
 refine ⟨_,rfl,_,rfl, .inl ⟨a,xs,rfl, .inr (s07.tup ha),fun l1 hl1=>?_⟩⟩
 have m8:=aJ hl1 (.lst xs)
 have zl:zs.length<=30:=by
  rw [z2.1]
  unfold prI cvL
  rw [af]
  have:∀ M:List (Nat × Nat),(M.flatMap (cv1 T P)).length=3*M.length:=fun M=>by
   induction M with
   | nil=>rfl
   | cons a M ih=>rw [i6,au,ih,cw];show 3+_=_;omega
  rw [this,ll]
  omega
 have xl:xs.length=n:=by rw [hr.1];unfold prI;rw [af,pl]
 refine .inl ⟨F,l1,zs,xs,rfl,rfl,m8 _ _ z1,aF,et (show _<=100 by omega) (by decide),fun l2 hl2=>?_⟩
 have m9:=aJ hl2 (.lst (zs++xs))
 refine ⟨_,rfl, .inl ⟨a,xs,rfl, .inr ((s07.trans (m8.trans m9)).tup ha),fun l3 hl3=>?_⟩⟩
 have m10:=aJ hl3 (.lst xs)
 refine .inl ⟨l2,l3,zs++xs,xs,rfl,rfl,m10 _ _ aF,aF,et (show _<=100 by rw [au];omega) (by decide),fun l4 hl4=>?_⟩
 have m11:=aJ hl4 (.lst (zs++xs++xs))
 have m8b:=(m8.trans m9).trans (m10.trans m11)
 have s0b:=s07.trans m8b
 obtain ⟨ok2,dv2⟩:=aIQ (T:=T) (L:=L) bT okp pl td.dv hL
 have eS:=aDG sy pl td.one td.pL td.eW
 have rF:∀ HH,Rows K HH zs (prI (cvL T P L))->Rows K HH xs (prI P)->Rows K HH (zs++xs++xs) (prI (cvL T P L++P++P)):=fun HH h1 h2=>by
  have:=oW (oW h1 h2) h2
  unfold prI at this ⊢
  rw [cq,cq]
  exact this
 refine ⟨l4,zs++xs++xs,cvL T P L++P++P,D,rfl,aF,rF _ (z2.same m8b) (hr.same s0b),ok2,td.D0,td.Db,dv2,fun p H12 s12 hp=>?_⟩
 rw [eS] at hp
 have s0c:=s0b.trans s12
 refine ⟨_,rfl,_,rfl,nC _ _,nC _ _,uE _ _,jO (.of (s0c _ _ ta.f)),jO (.of hp),true,by rw [xV],?_⟩
 rw [if_pos rfl]
 refine ⟨_,rfl,_,rfl,_,rfl, .ref va,a,T,n,xs,P,rfl,hS.same s0c,qT,bT,sy,n3,n8,s0c.tup ha,hr.same s0c,okp,pl,fun p2 D' W' H13 s13 hp2 D0' dv' hW'=>?_⟩
 obtain ⟨b1,b2⟩:=aCK n3 pl okp td.D0 D0' td.dv dv' td.isW hW'
 rw [b1,b2] at hp2
 refine ⟨nC _ _,nC _ _,uE _ _,jO (.of (s13 _ _ (s0c _ _ ta.f))),jO (.of hp2),?_⟩
 rw [xV]
 exact q H13 (s0c.trans s13)
end
section
variable {K:ae}{C1 CN CF:Addr}
def foK (K:ae) (CN CF C1:Addr):Addr->Sp->Prop:=fun f sp=>f=C1/\sp=pU K CN CF
theorem Pen.off {H H':Hp}{p l b:Addr}{ns:List Int}(h:Pen H p l ns)(np:b≠p)(nl:b≠l)(sx:SameX b H H'):Pen H' p l ns:=by
 obtain ⟨k,z,e1,e2,e3⟩:=h
 exact ⟨k,z,sx _ _ (jk np) e1,sx _ _ (jk nl) e2,e3⟩
structure PrA (K:ae)(H:Hp)(a:Addr)(xs:List V)(P:Pr):Prop where
 sq:SqT K H a xs
 rows:Rows K H xs (prI P)
theorem PrA.same {H H':Hp}{a:Addr}{xs:List V}{P:Pr}(h:PrA K H a xs P)(s:Same H H'):PrA K H' a xs P:=⟨s.tup h.sq,h.rows.same s⟩
theorem PrA.x {H H':Hp}{a b:Addr}{xs ys:List V}{P:Pr}(h:PrA K H a xs P)(hb:H b=some (.lst ys))(sx:SameX b H H'):PrA K H' a xs P:=⟨wX h.sq hb sx,h.rows.map fun _ _ z=>wX z hb sx⟩
theorem PrA.draw {H H':Hp}{a p l:Addr}{ns:List Int}{xs:List V}{P:Pr}(h:PrA K H a xs P)(hp:Pen H p l ns)(sx:SameX p H H'):PrA K H' a xs P:=by
 obtain ⟨k,z,hp⟩:=hp
 exact h.x hp.1 sx
def itR (K:ae) (C1:Addr) (sp:Sp) (s:Str):TS:=aP (eD (bZ (tOp (xH K) (bG sp [] E0 (aB (gW (aB (tC (.ref C1)) (aB (aE 7) (aB (tSl (uX K) (aE 4) dF (jC (tCB (jH K) (aB (aE 7) aQ)))) aQ)))) aQ)) (tC (.str s)))) (aP (fB (tC (.bl false))) aK) aK) aK
theorem aGC {D:mJ}{x0 x1 x2 x3 x5 x6:Option V}{H:Hp}{a:Addr}{xs:List V}{P:Pr}{x:V}{T':List (List Int)}{n':Nat}{C:Addr}{s:Str}(pr:PrA K H a xs P)(hS:Sh K H (lH T') x)(qT:Quad T' n')(n1:1<=n')(n8:n'<=8)(hC:(C=CN/\s="even")\/(C=CF/\s="few"))
  (ref:∀ H' Q' E',Same H H'->(∀ H2,Same H' H2->E' (.ref C) none H2)->∀ b:Addr,pU K CN CF [x, .ref b] H' Q' E') (q:∀ H',Same H H'->D.nx [x0,x1,x2,x3,some (.ref a),x5,x6,some x] H'):itR K C1 (aCe K (foK K CN CF C1) CN CF) s D [x0,x1,x2,x3,some (.ref a),x5,x6,some x] H:=by
 obtain ⟨va,rs,rfl,hva,hrl,_⟩:=id hS.tab
 refine ⟨_,rfl,_,rfl,_,rfl,va,rs,rfl, .inr hva,_,rfl, .inr ⟨a,xs,rfl,pr.sq,fun b H1 s1 hb=>⟨show 3<=ba by decide,fun tq htq=>?_⟩⟩⟩
 have s2:=aJ htq (.tup [.ref C1, .ref va, .ref b])
 refine ⟨tq,C1,pU K CN CF, .ref va, .ref b,C,s,rfl, .of aF,⟨rfl,rfl⟩,hC,fun Q' E' hE=>ref _ Q' E' (s1.trans s2) hE b,fun H3 s3=>?_⟩
 exact ⟨.str s, .str s,bh _,rfl,rfl,_,rfl,cL (by simp [eqD]) (q H3 ((s1.trans s2).trans s3))⟩
def aBP (K:ae):Sp:=fun vs H Q _=>∃ (a:Addr) (ns:List Int),vs=[.ref a]/\SqL K H a (ns.map V.int)/\ns.length<=63/\∀ H',Q (.bl true) H'
theorem sy2:Sy [[0,1],[1,0]] 2:=fun i j hi hj=>by
 have:∀ i,i<2->∀ j,j<2->at2 [[0,1],[1,0]] i j=at2 [[0,1],[1,0]] j i:=by decide
 exact this i hi j hj
theorem aJH:Sy [[0,5],[5,0]] 2:=fun i j hi hj=>by
 have:∀ i,i<2->∀ j,j<2->at2 [[0,5],[5,0]] i j=at2 [[0,5],[5,0]] j i:=by decide
 exact this i hi j hj
theorem sy1:Sy [[0]] 1:=fun i j hi hj=>by
 rw [show i=j by omega]
theorem q2 (x y z w:Int):Quad [[x,y],[z,w]] 2:=⟨rfl,fun r hr=>by
 rcases bj.mp hr with rfl | hr
 ·rfl
 ·rw [bq.mp hr];rfl⟩
theorem q1 (x:Int):Quad [[x]] 1:=⟨rfl,fun r hr=>by rw [bq.mp hr];rfl⟩
theorem aGp:∀ vs H Q E,aBP K vs H Q E->aGI K C1 (aHU K) (zD K) (yR K) (pE K) (aCe K (foK K CN CF C1) CN CF) (aHN K) (pU K CN CF) { nx:=fun _ H'=>Q .non H',rt:=Q } (bW ["script","feed","turn","table","prices","again","told","other"] vs) H:=by
 intro vs H Q E h
 obtain ⟨a,ns0,rfl,hS0,h63,q⟩:=h
 refine ⟨_,rfl,a,ns0,rfl,hS0,fun p l ns H0 s0 hP0=>?_⟩
 refine ⟨3,rfl,by decide,by decide,?_⟩
 refine cZ (lo:=0) (n:=3) (fun i σ' H'=>Pen H' p l ns/\∃ x2 x3 x4 x5 x6 x7,σ'=[some (.ref a),some (.ref p),x2,x3,x4,x5,x6,x7]) ⟨hP0,_,_,_,_,_,_,rfl⟩ (fun i σ' H' hi ⟨hP,x2,x3,x4,x5,x6,x7,es⟩=>?_) fun σ' H' _=>q H'
 subst es
 refine ⟨_,rfl,p,l,ns,3,5,rfl,by decide,by decide,hP,fun T n v H1 n3 n8 qT bT sT hS1 hP1 sx1=>?_⟩
 obtain ⟨va,rs,rfl,hva,hrl,_⟩:=id hS1.tab
 have hrl:rs.length=n:=hrl.trans qT.len
 refine ⟨_,rfl,_,rfl,va,rs,rfl, .inr hva,p,l,ns,n,by rw [hrl];rfl,hP1,by omega,fun pa xs P H2 hP2 sx2 ha2 hr2 pl ob=>?_⟩
 have okp:OkP P:=fun e he=>by
  obtain ⟨o1,o2,o3⟩:=ob e he
  exact ⟨o1,by omega,lM o3 (by decide)⟩
 have pr2:PrA K H2 pa xs P:=⟨ha2,hr2⟩
 have hS2:=hP1.tab hS1 sx2
 refine ⟨2,rfl,by decide,by decide,?_⟩
 refine cZ (lo:=0) (n:=2) (fun i σ' H'=>Pen H' p l ns/\Sh K H' (lH T) (.ref va)/\PrA K H' pa xs P/\∃ y2 y5 y6 y7,σ'=[some (.ref a),some (.ref p),y2,some (.ref va),some (.ref pa),y5,y6,y7]) ⟨hP2,hS2,pr2,_,_,_,_,rfl⟩ (fun i2 σ2 H3 hi2 ⟨hP3,hS3,pr3,y2,y5,y6,y7,es⟩=>?_) fun σ2 H3 ⟨hP3,hS3,pr3,y2,y5,y6,y7,es⟩=>?_
 ·subst es
  refine ⟨_,rfl,_,rfl, .ref va,pa,T,n,xs,P,rfl,hS3,qT,by omega,n8, .inl ⟨bT,sT,n3,pr3.sq,pr3.rows,okp,pl,fun tp f tl D W us es a1 b1 ys L H4 s4 ftl htp hf htl hrL pL srt D0 Db dv one eW isW=>?_⟩⟩
  have ntl:=hP3.ne ftl
  have td:aIZ T n P D W us es a1 b1 L:=⟨pL,srt,D0,Db,dv,one,eW,isW⟩
  refine ⟨_,rfl,_,rfl,_,rfl, .ref va,pa,tp,f,tl,T,n,xs,P,D,W,us,es,L,a1,b1,ys,rfl,hS3.same s4,qT,bT,sT,n3,n8,s4.tup pr3.sq,pr3.rows.same s4,okp,pl,⟨htp,hf,htl,hrL⟩,td,fun H5 s5=>⟨_,rfl,cL rfl ?_⟩⟩
  have s45:=s4.trans s5
  have hz:ys.length<=100:=by
   rw [hrL.1,eO,pL.length_eq]
   unfold hgL
   rw [cw,cw,af]
   have:=one.gr.len
   rw [one.pm.length_eq,cm] at this
   omega
  refine ⟨_,rfl,ixT (j:=1) (.of (s5 _ _ htp)) rfl ⟨.inl ⟨rfl,_, .of (s5 _ _ htl)⟩,tl,ys,_,rfl,rfl,s5 _ _ htl,bc hz (by decide),?_⟩⟩
  have sx:SameX tl H5 (upd H5 tl (.lst (ys++[V.int 0]))):=fun c o hc e=>by rw [aX hc];exact e
  have hP6:=(hP3.x s45).off ntl.1 ntl.2 sx
  have hS6:=aHl (hS3.same s45) (s5 _ _ htl) sx
  have pr6:=(pr3.same s45).x (s5 _ _ htl) sx
  generalize upd H5 tl (.lst (ys++[V.int 0]))=H6 at *
  obtain ⟨va2,rs6,e6,hva6,hrl6,_⟩:=id hS6.tab
  cases e6
  have hrl6:rs6.length=n:=hrl6.trans qT.len
  refine ⟨_,rfl,_,rfl,va,rs6,rfl, .inr hva6,_,rfl,va,rs6,rfl, .inr hva6,p,l,ns,n,0,by rw [hrl6];rfl,by omega,by omega,hP6,fun T7 n7 v7 H7 h71 h72 qT7 bT7 sT7 hS7 hP7 sx7=>?_⟩
  obtain rfl:n7=n:=by omega
  have pr7:=pr6.draw hP6 sx7
  have hV7:=hP6.tab hS6 sx7
  refine ⟨_,rfl,_,rfl,_,rfl,_,rfl,v7,pa,T7,n7,xs,P,rfl,hS7,qT7,by omega,n8, .inl ⟨bT7,sT7,n3,pr7.sq,pr7.rows,okp,pl,fun tp f tl D W us es a1 b1 ys L H8 s8 ftl htp hf htl hrL pL srt D0 Db dv one eW isW=>?_⟩⟩
  have td:aIZ T7 n7 P D W us es a1 b1 L:=⟨pL,srt,D0,Db,dv,one,eW,isW⟩
  refine ⟨v7,pa,tp,f,tl,T7,n7,xs,P,D,W,us,es,L,a1,b1,ys,rfl,hS7.same s8,qT7,bT7,sT7,n3,n8,s8.tup pr7.sq,pr7.rows.same s8,okp,pl,⟨htp,hf,htl,hrL⟩,td,fun H9 s9=>⟨_,rfl,cL rfl ?_⟩⟩
  have s89:=s8.trans s9
  exact ⟨hP7.x s89,hV7.same s89,pr7.same s89,_,_,_,_,rfl⟩
 ·subst es
  refine ⟨_,rfl,_,rfl,p,l,ns, .ref va,T,n,rfl,hP3,hS3,qT,sT,by omega,n8,fun T4 v4 H4 qT4 nev4 hS4 hP4 sx4=>?_⟩
  have pr4:=pr3.draw hP3 sx4
  refine ⟨_,rfl,show 2<=ba by decide,fun r1 hr1=>⟨show 2<=ba by decide,fun r2 hr2'=>⟨show 2<=ba by decide,fun r3 hr3=>?_⟩⟩⟩
  have m1:=aJ hr1 (.tup [V.int 0, .int 1])
  have m2:=aJ hr2' (.tup [V.int 1, .int 0])
  have m3:=aJ hr3 (.tup [V.ref r1, .ref r2])
  have m13:=(m1.trans m2).trans m3
  have hS5:Sh K (upd (upd (upd H4 r1 (.tup [V.int 0, .int 1])) r2 (.tup [V.int 1, .int 0])) r3 (.tup [V.ref r1, .ref r2])) (lH [[0,1],[1,0]]) (.ref r3):=⟨r3,_,rfl, .of aF,_,_,rfl,⟨r1,_,rfl, .of (m3 _ _ (m2 _ _ aF)),ShL.ints [0,1]⟩,_,_,rfl,⟨r2,_,rfl, .of (m3 _ _ aF),ShL.ints [1,0]⟩,rfl⟩
  have hP5:=hP4.x m13
  have pr5:=pr4.same m13
  have hS45:=hS4.same m13
  generalize upd (upd (upd H4 r1 (.tup [V.int 0, .int 1])) r2 (.tup [V.int 1, .int 0])) r3 (.tup [V.ref r1, .ref r2])=H5 at *
  refine ⟨p,l,ns, .ref r3,[[0,1],[1,0]],2,rfl,hP5,hS5,q2 _ _ _ _,sy2,by decide,by decide,fun T6 v6 H6 qT6 nev6 hS6 hP6 sx6=>⟨show 2<=ba by decide,fun Z hZ=>?_⟩⟩
  have m7:=aJ hZ (.lst [v4,v6])
  have pr7:=(pr5.draw hP5 sx6).same m7
  have hS47:=(hP5.tab hS45 sx6).same m7
  have hS67:=hS6.same m7
  have hP7:=hP6.x m7
  have hZ7:(upd H6 Z (.lst [v4,v6])) Z=some (.lst [v4,v6]):=aF
  generalize upd H6 Z (.lst [v4,v6])=H7 at *
  refine ⟨Z,rfl, .inl ⟨⟨_, .of hZ7⟩,?_⟩⟩
  refine cN (K:=K) (a:=Z) (xs:=[v4,v6]) (fun i σ' H'=>Same H7 H'/\∃ y7,σ'=[some (.ref a),some (.ref p),y2,some (.ref va),some (.ref pa),y5,y6,y7]) ⟨Same.refl _,_,rfl⟩ (fun i σ' H' _ ⟨s,_⟩ => .of (s _ _ hZ7)) (fun i x σ' H' hx ⟨s,y7,es⟩=>?_) fun σ' H8 ⟨s8,y7,es⟩=>?_
  ·subst es
   obtain ⟨T',n',hS',qT',n1',n8',nev'⟩:∃ T' n',Sh K H' (lH T') x/\Quad T' n'/\1<=n'/\n'<=8/\(gZ T' n').all id=false:=by
    match i,hx with
    | 0,hx=>cases hx;exact ⟨T4,n,hS47.same s,qT4,by omega,n8,nev4⟩
    | 1,hx=>cases hx;exact ⟨T6,2,hS67.same s,qT6,by decide,by decide,nev6⟩
   exact aGC (C:=CN) (s:="even") (pr7.same s) hS' qT' n1' n8' (.inl ⟨rfl,rfl⟩) (fun H2 Q' E' s2 hE b=>⟨x,b,T',n',[],[],rfl,hS'.same s2,qT',n1',n8', .inr (.inl ⟨nev',hE⟩)⟩) fun H2 s2=>⟨s.trans s2,_,rfl⟩
  ·subst es
   have pr8:=pr7.same s8
   have hP8:=hP7.x s8
   refine ⟨show 1<=ba by decide,fun u1 hu1=>⟨show 1<=ba by decide,fun u2 hu2=>⟨show 2<=ba by decide,fun u3 hu3=>⟨show 2<=ba by decide,fun u4 hu4=>⟨show 2<=ba by decide,fun u5 hu5=>⟨show 2<=ba by decide,fun Y hY=>?_⟩⟩⟩⟩⟩⟩
   have k1:=aJ hu1 (.tup [V.int 0])
   have k2:=aJ hu2 (.tup [V.ref u1])
   have k3:=aJ hu3 (.tup [V.int 0, .int 5])
   have k4:=aJ hu4 (.tup [V.int 5, .int 0])
   have k5:=aJ hu5 (.tup [V.ref u3, .ref u4])
   have k6:=aJ hY (.lst [V.ref u2, .ref u5])
   have k36:=(k3.trans k4).trans (k5.trans k6)
   have hA9:Sh K (upd (upd (upd (upd (upd (upd H8 u1 (.tup [V.int 0])) u2 (.tup [V.ref u1])) u3 (.tup [V.int 0, .int 5])) u4 (.tup [V.int 5, .int 0])) u5 (.tup [V.ref u3, .ref u4])) Y (.lst [V.ref u2, .ref u5])) (lH [[0]]) (.ref u2):=⟨u2,_,rfl, .of (k36 _ _ aF),_,_,rfl,⟨u1,_,rfl, .of (k36 _ _ (k2 _ _ aF)),ShL.ints [0]⟩,rfl⟩
   have hB9:Sh K (upd (upd (upd (upd (upd (upd H8 u1 (.tup [V.int 0])) u2 (.tup [V.ref u1])) u3 (.tup [V.int 0, .int 5])) u4 (.tup [V.int 5, .int 0])) u5 (.tup [V.ref u3, .ref u4])) Y (.lst [V.ref u2, .ref u5])) (lH [[0,5],[5,0]]) (.ref u5):=⟨u5,_,rfl, .of (k6 _ _ aF),_,_,rfl,⟨u3,_,rfl, .of (k6 _ _ (k5 _ _ (k4 _ _ aF))),ShL.ints [0,5]⟩,_,_,rfl,⟨u4,_,rfl, .of (k6 _ _ (k5 _ _ aF)),ShL.ints [5,0]⟩,rfl⟩
   have hY9:(upd (upd (upd (upd (upd (upd H8 u1 (.tup [V.int 0])) u2 (.tup [V.ref u1])) u3 (.tup [V.int 0, .int 5])) u4 (.tup [V.int 5, .int 0])) u5 (.tup [V.ref u3, .ref u4])) Y (.lst [V.ref u2, .ref u5])) Y=some (.lst [V.ref u2, .ref u5]):=aF
   have k16:=(k1.trans k2).trans k36
   have pr9:=pr8.same k16
   have hP9:=hP8.x k16
   generalize upd (upd (upd (upd (upd (upd H8 u1 (.tup [V.int 0])) u2 (.tup [V.ref u1])) u3 (.tup [V.int 0, .int 5])) u4 (.tup [V.int 5, .int 0])) u5 (.tup [V.ref u3, .ref u4])) Y (.lst [V.ref u2, .ref u5])=H9 at *
   refine ⟨Y,rfl, .inl ⟨⟨_, .of hY9⟩,?_⟩⟩
   refine cN (K:=K) (a:=Y) (xs:=[V.ref u2, .ref u5]) (fun i σ' H'=>Same H9 H'/\∃ y7,σ'=[some (.ref a),some (.ref p),y2,some (.ref va),some (.ref pa),y5,y6,y7]) ⟨Same.refl _,_,rfl⟩ (fun i σ' H' _ ⟨s,_⟩ => .of (s _ _ hY9)) (fun i x σ' H' hx ⟨s,y7,es⟩=>?_) fun σ' H' ⟨s,y7,es⟩=>?_
   ·subst es
    obtain ⟨T',n',hS',qT',n1',n2',sy'⟩:∃ T' n',Sh K H' (lH T') x/\Quad T' n'/\1<=n'/\n'<3/\Sy T' n':=by
     match i,hx with
     | 0,hx=>cases hx;exact ⟨_,1,hA9.same s,q1 0,by decide,by decide,sy1⟩
     | 1,hx=>cases hx;exact ⟨_,2,hB9.same s,q2 _ _ _ _,by decide,by decide,aJH⟩
    exact aGC (C:=CF) (s:="few") (pr9.same s) hS' qT' n1' (by omega) (.inr ⟨rfl,rfl⟩) (fun H2 Q' E' s2 hE b=>⟨x,b,T',n',[],[],rfl,hS'.same s2,qT',n1',by omega, .inr (.inr ⟨sy',n2',hE⟩)⟩) fun H2 s2=>⟨s.trans s2,_,rfl⟩
   ·subst es
    exact ⟨hP9.x s,_,_,_,_,_,_,rfl⟩
end
section
variable {K:ae}{C_NotEven C_TooFew C_hung:Addr}
theorem mV:∀ vs H Q E,aHj vs H Q E->vs.length=2:=by
 intro vs H Q E h
 obtain ⟨_,_,e,_⟩:=h
 rw [e]
 rfl
theorem aCy:∀ vs H Q E,(jP K) vs H Q E->vs.length=2:=by
 intro vs H Q E h
 obtain ⟨_,_,e,_⟩:=h
 rw [e]
 rfl
theorem oP:∀ vs H Q E,(aId K) vs H Q E->vs.length=1:=by
 intro vs H Q E h
 obtain ⟨_,_,_,e,_⟩:=h
 rw [e]
 rfl
theorem wK:∀ vs H Q E,(aIc K) vs H Q E->vs.length=2:=by
 intro vs H Q E h
 obtain ⟨_,_,_,_,e,_⟩:=h
 rw [e]
 rfl
theorem aAG:∀ vs H Q E,(aHQ K) vs H Q E->vs.length=1:=by
 intro vs H Q E h
 obtain ⟨_,_,_,e,_⟩:=h
 rw [e]
 rfl
theorem xI:∀ vs H Q E,(aHT K) vs H Q E->vs.length=2:=by
 intro vs H Q E h
 obtain ⟨_,_,_,_,_,_,e,_⟩:=h
 rw [e]
 rfl
theorem uA:∀ vs H Q E,(zX K C_NotEven) vs H Q E->vs.length=1:=by
 intro vs H Q E h
 obtain ⟨_,_,_,e,_⟩:=h
 rw [e]
 rfl
theorem aFn:∀ vs H Q E,(pU K C_NotEven C_TooFew) vs H Q E->vs.length=2:=by
 intro vs H Q E h
 obtain ⟨_,_,_,_,_,_,e,_⟩:=h
 rw [e]
 rfl
theorem aAJ:∀ vs H Q E,(aDh K) vs H Q E->vs.length=3:=by
 intro vs H Q E h
 obtain ⟨_,_,_,_,_,_,e,_⟩:=h
 rw [e]
 rfl
theorem rV:∀ vs H Q E,aAM vs H Q E->vs.length=2:=by
 intro vs H Q E h
 obtain ⟨_,_,e,_⟩:=h
 rw [e]
 rfl
theorem uI:∀ vs H Q E,(yR K) vs H Q E->vs.length=1:=by
 intro vs H Q E h
 obtain ⟨_,_,e,_⟩:=h
 rw [e]
 rfl
theorem tI:∀ vs H Q E,eK vs H Q E->vs.length=2:=by
 intro vs H Q E h
 obtain ⟨_,_,_,_,e,_⟩:=h
 rw [e]
 rfl
theorem rL:∀ vs H Q E,(K32.L.spW K) vs H Q E->vs.length=1:=by
 intro vs H Q E h
 obtain ⟨_,_,e,_⟩:=h
 rw [e]
 rfl
theorem rM:∀ vs H Q E,(fQ K) vs H Q E->vs.length=1:=by
 intro vs H Q E h
 obtain ⟨_,e,_⟩:=h
 rw [e]
 rfl
theorem rT:∀ vs H Q E,(eM K) vs H Q E->vs.length=1:=by
 intro vs H Q E h
 obtain ⟨_,_,_,_,e,_⟩:=h
 rw [e]
 rfl
theorem tJ:∀ vs H Q E,(zD K) vs H Q E->vs.length=3:=by
 intro vs H Q E h
 obtain ⟨_,_,_,_,_,e,_⟩:=h
 rw [e]
 rfl
theorem qX:∀ vs H Q E,(aHN K) vs H Q E->vs.length=2:=by
 intro vs H Q E h
 obtain ⟨_,_,_,_,_,_,e,_⟩:=h
 rw [e]
 rfl
theorem oK:∀ vs H Q E,(aCe K (foK K C_NotEven C_TooFew C_hung) C_NotEven C_TooFew) vs H Q E->vs.length=1:=by
 intro vs H Q E h
 obtain ⟨_,_,_,_,_,_,_,e,_⟩:=h
 rw [e]
 rfl
theorem wO:∀ vs H Q E,(jP K) vs H Q E->vs.length=2:=by
 intro vs H Q E h
 obtain ⟨_,_,e,_⟩:=h
 rw [e]
 rfl
theorem tP:∀ vs H Q E,(yU K) vs H Q E->vs.length=1:=by
 intro vs H Q E h
 obtain ⟨_,_,_,_,e,_⟩:=h
 rw [e]
 rfl
theorem kG:∀ vs H Q E,(aIe K) vs H Q E->vs.length=1:=by
 intro vs H Q E h
 obtain ⟨_,_,_,e,_⟩:=h
 rw [e]
 rfl
theorem rS:∀ vs H Q E,(aIb K) vs H Q E->vs.length=2:=by
 intro vs H Q E h
 obtain ⟨_,_,_,_,_,_,_,e,_⟩:=h
 rw [e]
 rfl
theorem pJ:∀ vs H Q E,(aAT K) vs H Q E->vs.length=2:=by
 intro vs H Q E h
 obtain ⟨_,_,_,_,e,_⟩:=h
 rw [e]
 rfl
theorem oI:∀ vs H Q E,(aHX K) vs H Q E->vs.length=2:=by
 intro vs H Q E h
 obtain ⟨_,_,_,_,_,_,e,_⟩:=h
 rw [e]
 rfl
theorem mY:∀ vs H Q E,(aCU K) vs H Q E->vs.length=2:=by
 intro vs H Q E h
 obtain ⟨_,_,_,_,e,_⟩:=h
 rw [e]
 rfl
theorem sA:∀ vs H Q E,(aDe K) vs H Q E->vs.length=2:=by
 intro vs H Q E h
 obtain ⟨_,_,_,_,_,_,e,_⟩:=h
 rw [e]
 rfl
theorem qV:∀ vs H Q E,(pE K) vs H Q E->vs.length=2:=by
 intro vs H Q E h
 obtain ⟨_,_,_,_,e,_⟩:=h
 rw [e]
 rfl
theorem pX:∀ vs H Q E,(aHU K) vs H Q E->vs.length=3:=by
 intro vs H Q E h
 obtain ⟨_,_,_,_,_,_,_,_,_,_,_,_,_,_,_,_,_,e,_⟩:=h
 rw [e]
 rfl
theorem aGA:∀ vs H Q E,aBP K vs H Q E->vs.length=1:=fun vs H Q E ⟨a,ns,e,_⟩=>by rw [e];rfl
end
theorem aCQ {us:List Value}(h:us.length=1):∃ a0,us=[a0]:=List.length_eq_one_iff.mp h
theorem xJ {us:List Value}(h:us.length=2):∃ a0 a1,us=[a0,a1]:=by
 cases us with
 | nil=>cases h
 | cons a0 us=>
 cases us with
 | nil=>cases h
 | cons a1 us=>
 cases us with
 | nil=>exact ⟨a0,a1,rfl⟩
 | cons _ _=>simp at h
theorem aIk {us:List Value}(h:us.length=3):∃ a0 a1 a2,us=[a0,a1,a2]:=by
 cases us with
 | nil=>cases h
 | cons a0 us=>
 cases us with
 | nil=>cases h
 | cons a1 us=>
 cases us with
 | nil=>cases h
 | cons a2 us=>
 cases us with
 | nil=>exact ⟨a0,a1,a2,rfl⟩
 | cons _ _=>simp at h
theorem all_mk {l:PySem.W.OpenLaw}{w:World}{K:ae}{h:Heap}{mg:Str->Option Value}{fa:Addr}(X:K.In h)(G:h.Ns bg mg)(hfa:mg "law" = some (.ref fa))
  {f0:Addr} {od0 an0:Option Addr} {sl0:Array (Option Value)} {oc0 kV0 dc0 pm0 cd0 ct0:Value} (a0:bo K bg "lowest" = some (some (.ref f0))) (l0:K.lookup f0=some ⟨oc0,od0, .func (du "lowest" "lowest" (bR (top 11)) (bL (top 11)) (aO (top 11)) .none kV0 dc0 pm0 an0 cd0 ct0),sl0⟩) (c0:di K cd0 "lowest" = true) (k0:da K (.ref f0)=true)
  {f1:Addr} {od1 an1:Option Addr} {sl1:Array (Option Value)} {oc1 kV1 dc1 pm1 cd1 ct1:Value} (a1:bo K bg "common_measure" = some (some (.ref f1))) (l1:K.lookup f1=some ⟨oc1,od1, .func (du "common_measure" "common_measure" (bR (top 12)) (bL (top 12)) (aO (top 12)) .none kV1 dc1 pm1 an1 cd1 ct1),sl1⟩) (c1:di K cd1 "common_measure" = true) (k1:da K (.ref f1)=true)
  {f2:Addr} {od2 an2:Option Addr} {sl2:Array (Option Value)} {oc2 kV2 dc2 pm2 cd2 ct2:Value} (a2:bo K bg "common_bottom" = some (some (.ref f2))) (l2:K.lookup f2=some ⟨oc2,od2, .func (du "common_bottom" "common_bottom" (bR (top 13)) (bL (top 13)) (aO (top 13)) .none kV2 dc2 pm2 an2 cd2 ct2),sl2⟩) (c2:di K cd2 "common_bottom" = true) (k2:da K (.ref f2)=true)
  {f3:Addr} {od3 an3:Option Addr} {sl3:Array (Option Value)} {oc3 kV3 dc3 pm3 cd3 ct3:Value} (a3:bo K bg "tops_over" = some (some (.ref f3))) (l3:K.lookup f3=some ⟨oc3,od3, .func (du "tops_over" "tops_over" (bR (top 14)) (bL (top 14)) (aO (top 14)) .none kV3 dc3 pm3 an3 cd3 ct3),sl3⟩) (c3:di K cd3 "tops_over" = true) (k3:da K (.ref f3)=true)
  {f4:Addr} {od4 an4:Option Addr} {sl4:Array (Option Value)} {oc4 kV4 dc4 pm4 cd4 ct4:Value} (a4:bo K bg "is_even" = some (some (.ref f4))) (l4:K.lookup f4=some ⟨oc4,od4, .func (du "is_even" "is_even" (bR (top 16)) (bL (top 16)) (aO (top 16)) .none kV4 dc4 pm4 an4 cd4 ct4),sl4⟩) (c4:di K cd4 "is_even" = true) (k4:da K (.ref f4)=true)
  {f5:Addr} {od5 an5:Option Addr} {sl5:Array (Option Value)} {oc5 kV5 dc5 pm5 cd5 ct5:Value} (a5:bo K bg "least_tree" = some (some (.ref f5))) (l5:K.lookup f5=some ⟨oc5,od5, .func (du "least_tree" "least_tree" (bR (top 18)) (bL (top 18)) (aO (top 18)) .none kV5 dc5 pm5 an5 cd5 ct5),sl5⟩) (c5:di K cd5 "least_tree" = true) (k5:da K (.ref f5)=true)
  {f6:Addr} {od6 an6:Option Addr} {sl6:Array (Option Value)} {oc6 kV6 dc6 pm6 cd6 ct6:Value} (a6:bo K bg "tree_sum" = some (some (.ref f6))) (l6:K.lookup f6=some ⟨oc6,od6, .func (du "tree_sum" "tree_sum" (bR (top 19)) (bL (top 19)) (aO (top 19)) .none kV6 dc6 pm6 an6 cd6 ct6),sl6⟩) (c6:di K cd6 "tree_sum" = true) (k6:da K (.ref f6)=true)
  {f7:Addr} {od7 an7:Option Addr} {sl7:Array (Option Value)} {oc7 kV7 dc7 pm7 cd7 ct7:Value} (a7:bo K bg "hung" = some (some (.ref f7))) (l7:K.lookup f7=some ⟨oc7,od7, .func (du "hung" "hung" (bR (top 21)) (bL (top 21)) (aO (top 21)) .none kV7 dc7 pm7 an7 cd7 ct7),sl7⟩) (c7:di K cd7 "hung" = true) (k7:da K (.ref f7)=true)
  {f8:Addr} {od8 an8:Option Addr} {sl8:Array (Option Value)} {oc8 kV8 dc8 pm8 cd8 ct8:Value} (a8:bo K bg "counted" = some (some (.ref f8))) (l8:K.lookup f8=some ⟨oc8,od8, .func (du "counted" "counted" (bR (top 22)) (bL (top 22)) (aO (top 22)) .none kV8 dc8 pm8 an8 cd8 ct8),sl8⟩) (c8:di K cd8 "counted" = true) (k8:da K (.ref f8)=true)
  {f9:Addr} {od9 an9:Option Addr} {sl9:Array (Option Value)} {oc9 kV9 dc9 pm9 cd9 ct9:Value} (a9:bo K bg "_law_cmixed" = some (some (.ref f9))) (l9:K.lookup f9=some ⟨oc9,od9, .func (du "_law_cmixed" "_law_cmixed" (bR (top 24)) (bL (top 24)) (aO (top 24)) .none kV9 dc9 pm9 an9 cd9 ct9),sl9⟩) (c9:di K cd9 "_law_cmixed" = true) (k9:da K (.ref f9)=true)
  {f10:Addr} {od10 an10:Option Addr} {sl10:Array (Option Value)} {oc10 kV10 dc10 pm10 cd10 ct10:Value} (a10:bo K bg "_law_copen" = some (some (.ref f10))) (l10:K.lookup f10=some ⟨oc10,od10, .func (du "_law_copen" "_law_copen" (bR (top 25)) (bL (top 25)) (aO (top 25)) .none kV10 dc10 pm10 an10 cd10 ct10),sl10⟩) (c10:di K cd10 "_law_copen" = true) (k10:da K (.ref f10)=true)
  {f11:Addr} {od11 an11:Option Addr} {sl11:Array (Option Value)} {oc11 kV11 dc11 pm11 cd11 ct11:Value} (a11:bo K bg "_law_cdraw" = some (some (.ref f11))) (l11:K.lookup f11=some ⟨oc11,od11, .func (du "_law_cdraw" "_law_cdraw" (bR (top 26)) (bL (top 26)) (aO (top 26)) .none kV11 dc11 pm11 an11 cd11 ct11),sl11⟩) (c11:di K cd11 "_law_cdraw" = true) (k11:da K (.ref f11)=true)
  {f12:Addr} {od12 an12:Option Addr} {sl12:Array (Option Value)} {oc12 kV12 dc12 pm12 cd12 ct12:Value} (a12:bo K bg "_law_cwhole" = some (some (.ref f12))) (l12:K.lookup f12=some ⟨oc12,od12, .func (du "_law_cwhole" "_law_cwhole" (bR (top 27)) (bL (top 27)) (aO (top 27)) .none kV12 dc12 pm12 an12 cd12 ct12),sl12⟩) (c12:di K cd12 "_law_cwhole" = true) (k12:da K (.ref f12)=true)
  {f13:Addr} {od13 an13:Option Addr} {sl13:Array (Option Value)} {oc13 kV13 dc13 pm13 cd13 ct13:Value} (a13:bo K bg "_law_cpairs" = some (some (.ref f13))) (l13:K.lookup f13=some ⟨oc13,od13, .func (du "_law_cpairs" "_law_cpairs" (bR (top 28)) (bL (top 28)) (aO (top 28)) .none kV13 dc13 pm13 an13 cd13 ct13),sl13⟩) (c13:di K cd13 "_law_cpairs" = true) (k13:da K (.ref f13)=true)
  {f14:Addr} {od14 an14:Option Addr} {sl14:Array (Option Value)} {oc14 kV14 dc14 pm14 cd14 ct14:Value} (a14:bo K bg "_law_cshort" = some (some (.ref f14))) (l14:K.lookup f14=some ⟨oc14,od14, .func (du "_law_cshort" "_law_cshort" (bR (top 29)) (bL (top 29)) (aO (top 29)) .none kV14 dc14 pm14 an14 cd14 ct14),sl14⟩) (c14:di K cd14 "_law_cshort" = true) (k14:da K (.ref f14)=true)
  {f15:Addr} {od15 an15:Option Addr} {sl15:Array (Option Value)} {oc15 kV15 dc15 pm15 cd15 ct15:Value} (a15:bo K bg "_law_ceven" = some (some (.ref f15))) (l15:K.lookup f15=some ⟨oc15,od15, .func (du "_law_ceven" "_law_ceven" (bR (top 30)) (bL (top 30)) (aO (top 30)) .none kV15 dc15 pm15 an15 cd15 ct15),sl15⟩) (c15:di K cd15 "_law_ceven" = true) (k15:da K (.ref f15)=true)
  {f16:Addr} {od16 an16:Option Addr} {sl16:Array (Option Value)} {oc16 kV16 dc16 pm16 cd16 ct16:Value} (a16:bo K bg "_law_cuneven" = some (some (.ref f16))) (l16:K.lookup f16=some ⟨oc16,od16, .func (du "_law_cuneven" "_law_cuneven" (bR (top 31)) (bL (top 31)) (aO (top 31)) .none kV16 dc16 pm16 an16 cd16 ct16),sl16⟩) (c16:di K cd16 "_law_cuneven" = true) (k16:da K (.ref f16)=true)
  {f17:Addr} {od17 an17:Option Addr} {sl17:Array (Option Value)} {oc17 kV17 dc17 pm17 cd17 ct17:Value} (a17:bo K bg "_law_crefused" = some (some (.ref f17))) (l17:K.lookup f17=some ⟨oc17,od17, .func (du "_law_crefused" "_law_crefused" (bR (top 32)) (bL (top 32)) (aO (top 32)) .none kV17 dc17 pm17 an17 cd17 ct17),sl17⟩) (c17:di K cd17 "_law_crefused" = true) (k17:da K (.ref f17)=true)
  {f18:Addr} {od18 an18:Option Addr} {sl18:Array (Option Value)} {oc18 kV18 dc18 pm18 cd18 ct18:Value} (a18:bo K bg "_law_clow" = some (some (.ref f18))) (l18:K.lookup f18=some ⟨oc18,od18, .func (du "_law_clow" "_law_clow" (bR (top 33)) (bL (top 33)) (aO (top 33)) .none kV18 dc18 pm18 an18 cd18 ct18),sl18⟩) (c18:di K cd18 "_law_clow" = true) (k18:da K (.ref f18)=true)
  {f19:Addr} {od19 an19:Option Addr} {sl19:Array (Option Value)} {oc19 kV19 dc19 pm19 cd19 ct19:Value} (a19:bo K bg "_law_cplus" = some (some (.ref f19))) (l19:K.lookup f19=some ⟨oc19,od19, .func (du "_law_cplus" "_law_cplus" (bR (top 34)) (bL (top 34)) (aO (top 34)) .none kV19 dc19 pm19 an19 cd19 ct19),sl19⟩) (c19:di K cd19 "_law_cplus" = true) (k19:da K (.ref f19)=true)
  {f20:Addr} {od20 an20:Option Addr} {sl20:Array (Option Value)} {oc20 kV20 dc20 pm20 cd20 ct20:Value} (a20:bo K bg "_law_cis_fraction" = some (some (.ref f20))) (l20:K.lookup f20=some ⟨oc20,od20, .func (du "_law_cis_fraction" "_law_cis_fraction" (bR (top 35)) (bL (top 35)) (aO (top 35)) .none kV20 dc20 pm20 an20 cd20 ct20),sl20⟩) (c20:di K cd20 "_law_cis_fraction" = true) (k20:da K (.ref f20)=true)
  {f21:Addr} {od21 an21:Option Addr} {sl21:Array (Option Value)} {oc21 kV21 dc21 pm21 cd21 ct21:Value} (a21:bo K bg "_law_cahead" = some (some (.ref f21))) (l21:K.lookup f21=some ⟨oc21,od21, .func (du "_law_cahead" "_law_cahead" (bR (top 36)) (bL (top 36)) (aO (top 36)) .none kV21 dc21 pm21 an21 cd21 ct21),sl21⟩) (c21:di K cd21 "_law_cahead" = true) (k21:da K (.ref f21)=true)
  {f22:Addr} {od22 an22:Option Addr} {sl22:Array (Option Value)} {oc22 kV22 dc22 pm22 cd22 ct22:Value} (a22:bo K bg "_law_cis_tie" = some (some (.ref f22))) (l22:K.lookup f22=some ⟨oc22,od22, .func (du "_law_cis_tie" "_law_cis_tie" (bR (top 37)) (bL (top 37)) (aO (top 37)) .none kV22 dc22 pm22 an22 cd22 ct22),sl22⟩) (c22:di K cd22 "_law_cis_tie" = true) (k22:da K (.ref f22)=true)
  {f23:Addr} {od23 an23:Option Addr} {sl23:Array (Option Value)} {oc23 kV23 dc23 pm23 cd23 ct23:Value} (a23:bo K bg "_law_cis_tree" = some (some (.ref f23))) (l23:K.lookup f23=some ⟨oc23,od23, .func (du "_law_cis_tree" "_law_cis_tree" (bR (top 38)) (bL (top 38)) (aO (top 38)) .none kV23 dc23 pm23 an23 cd23 ct23),sl23⟩) (c23:di K cd23 "_law_cis_tree" = true) (k23:da K (.ref f23)=true)
  {f24:Addr} {od24 an24:Option Addr} {sl24:Array (Option Value)} {oc24 kV24 dc24 pm24 cd24 ct24:Value} (a24:bo K bg "_law_ctree_sum" = some (some (.ref f24))) (l24:K.lookup f24=some ⟨oc24,od24, .func (du "_law_ctree_sum" "_law_ctree_sum" (bR (top 39)) (bL (top 39)) (aO (top 39)) .none kV24 dc24 pm24 an24 cd24 ct24),sl24⟩) (c24:di K cd24 "_law_ctree_sum" = true) (k24:da K (.ref f24)=true)
  {f25:Addr} {od25 an25:Option Addr} {sl25:Array (Option Value)} {oc25 kV25 dc25 pm25 cd25 ct25:Value} (a25:bo K bg "_law_cbound" = some (some (.ref f25))) (l25:K.lookup f25=some ⟨oc25,od25, .func (du "_law_cbound" "_law_cbound" (bR (top 40)) (bL (top 40)) (aO (top 40)) .none kV25 dc25 pm25 an25 cd25 ct25),sl25⟩) (c25:di K cd25 "_law_cbound" = true) (k25:da K (.ref f25)=true)
  {f26:Addr} {od26 an26:Option Addr} {sl26:Array (Option Value)} {oc26 kV26 dc26 pm26 cd26 ct26:Value} (a26:bo K bg "_law_cprices" = some (some (.ref f26))) (l26:K.lookup f26=some ⟨oc26,od26, .func (du "_law_cprices" "_law_cprices" (bR (top 41)) (bL (top 41)) (aO (top 41)) .none kV26 dc26 pm26 an26 cd26 ct26),sl26⟩) (c26:di K cd26 "_law_cprices" = true) (k26:da K (.ref f26)=true)
  {f27:Addr} {od27 an27:Option Addr} {sl27:Array (Option Value)} {oc27 kV27 dc27 pm27 cd27 ct27:Value} (a27:bo K bg "_law_c_right" = some (some (.ref f27))) (l27:K.lookup f27=some ⟨oc27,od27, .func (du "_law_c_right" "_law_c_right" (bR (top 42)) (bL (top 42)) (aO (top 42)) .none kV27 dc27 pm27 an27 cd27 ct27),sl27⟩) (c27:di K cd27 "_law_c_right" = true) (k27:da K (.ref f27)=true)
  {f28:Addr} {od28 an28:Option Addr} {sl28:Array (Option Value)} {oc28 kV28 dc28 pm28 cd28 ct28:Value} (a28:bo K bg "law" = some (some (.ref f28))) (l28:K.lookup f28=some ⟨oc28,od28, .func (du "law" "law" (bR (top 43)) (bL (top 43)) (aO (top 43)) .none kV28 dc28 pm28 an28 cd28 ct28),sl28⟩) (c28:di K cd28 "law" = true) (k28:da K (.ref f28)=true)
  (z_len:bo K bg "len" = some none)
  (z_all:bo K bg "all" = some none)
  (z_min:bo K bg "min" = some none)
  (z_max:bo K bg "max" = some none)
  (z_sum:bo K bg "sum" = some none)
  (z_isinstance:bo K bg "isinstance" = some none)
  (z_sorted:bo K bg "sorted" = some none)
  (z_tuple:bo K bg "tuple" = some none)
  (z_list:bo K bg "list" = some none)
  (z_range:bo K bg "range" = some none)
  (z_int:bo K bg "int" = some none)
  (z_bool:bo K bg "bool" = some none)
  (z_zip:bo K bg "zip" = some none)
  (z_repr:bo K bg "repr" = some none)
  (z_enumerate:bo K bg "enumerate" = some none)
  (z_reversed:bo K bg "reversed" = some none)
  (z_str:bo K bg "str" = some none)
  (z_set:bo K bg "set" = some none)
  (z_abs:bo K bg "abs" = some none)
  {C_NoBack:Addr} (ac_NoBack:bo K bg "NoBack" = some (some (.ref C_NoBack)))
  {C_NoRow:Addr} (ac_NoRow:bo K bg "NoRow" = some (some (.ref C_NoRow)))
  {C_NoTable:Addr} (ac_NoTable:bo K bg "NoTable" = some (some (.ref C_NoTable)))
  {C_NoText:Addr} (ac_NoText:bo K bg "NoText" = some (some (.ref C_NoText)))
  {C_NotEven:Addr} (ac_NotEven:bo K bg "NotEven" = some (some (.ref C_NotEven)))
  {C_NotStraight:Addr} (ac_NotStraight:bo K bg "NotStraight" = some (some (.ref C_NotStraight)))
  {C_RoundError:Addr} (ac_RoundError:bo K bg "RoundError" = some (some (.ref C_RoundError)))
  {C_TooFew:Addr} (ac_TooFew:bo K bg "TooFew" = some (some (.ref C_TooFew)))
  {C_TooMany:Addr} (ac_TooMany:bo K bg "TooMany" = some (some (.ref C_TooMany)))
  {C_hung:Addr} (ac_hung:bo K bg "hung" = some (some (.ref C_hung)))
  (XC_NotEven:ku K C_NotEven aFy "ValueError.__new__" = true)
  (XC_TooFew:ku K C_TooFew aFy "ValueError.__new__" = true)
  (z_ValueError:bo K bg "ValueError" = some none)
  (xE_ga:j3 K (.ref C_NotEven) "__getattribute__" = some (some (.builtin "BaseException.__getattribute__")))
  (xE_gn:j3 K (.ref C_NotEven) "__getattr__" = some none)
  (xE_cl:j3 K (.ref C_NotEven) "__class__" = some (some (.builtin "object.__class__")))
  (xE_gt:wx K (.builtin "object.__class__") "__get__" = some (some (.builtin "getset_descriptor.__get__")))
  (xE_tk:yr K (.builtin "object.__class__")=some true)
  (xE_ob:xk K C_NotEven (.type "object")=some true)
  (xE_bx:AE K (.ref C_NotEven) (.type "BaseException")=some true)
  (xE_is:(ui K C_NotEven).isSome=true)
  (hE:pq K (.ref C_NotEven) (.ref C_RoundError)=some true)
  (oE:sd K (.ref C_NotEven) [.ref C_NoBack, .ref C_NoRow, .ref C_NoTable, .ref C_NoText]=some false)
  (vE:e9 K (.ref C_NotEven) (.type "ValueError")=some true)
  (eE:e9 K (.ref C_NotEven) (.ref C_NotEven)=some true)
  (sE:e9 K (.ref C_NotEven) (.ref C_NotStraight)=some false)
  (fE:e9 K (.ref C_NotEven) (.ref C_TooFew)=some false)
  (mE:e9 K (.ref C_NotEven) (.ref C_TooMany)=some false)
  (xF_ga:j3 K (.ref C_TooFew) "__getattribute__" = some (some (.builtin "BaseException.__getattribute__")))
  (xF_gn:j3 K (.ref C_TooFew) "__getattr__" = some none)
  (xF_cl:j3 K (.ref C_TooFew) "__class__" = some (some (.builtin "object.__class__")))
  (xF_gt:wx K (.builtin "object.__class__") "__get__" = some (some (.builtin "getset_descriptor.__get__")))
  (xF_tk:yr K (.builtin "object.__class__")=some true)
  (xF_ob:xk K C_TooFew (.type "object")=some true)
  (xF_bx:AE K (.ref C_TooFew) (.type "BaseException")=some true)
  (xF_is:(ui K C_TooFew).isSome=true)
  (hF:pq K (.ref C_TooFew) (.ref C_RoundError)=some true)
  (oF:sd K (.ref C_TooFew) [.ref C_NoBack, .ref C_NoRow, .ref C_NoTable, .ref C_NoText]=some false)
  (vF:e9 K (.ref C_TooFew) (.type "ValueError")=some true)
  (eF:e9 K (.ref C_TooFew) (.ref C_NotEven)=some false)
  (sF:e9 K (.ref C_TooFew) (.ref C_NotStraight)=some false)
  (fF:e9 K (.ref C_TooFew) (.ref C_TooFew)=some true)
  (mF:e9 K (.ref C_TooFew) (.ref C_TooMany)=some false) :
  ∃ fd:FuncData,(∀ (s:Shared) (v:Value),A9 s fd ⟨[v],[]⟩ [("script",v)])/\∀ base:Heap,K.In base->base.Ns bg mg->FnOk l.prog w K mg base CX0 5 fa fd ["script"] (aBP K):=by
 have e:=hfa.symm.trans (cx X G a28)
 cases e
 have B:lJ mg:=⟨⟨⟨⟨d7 X G z_len,d7 X G z_all,d7 X G z_min,d7 X G z_max,d7 X G z_sum,d7 X G z_isinstance,d7 X G z_sorted,d7 X G z_tuple,d7 X G z_list,d7 X G z_range,d7 X G z_int,d7 X G z_bool⟩,d7 X G z_zip,d7 X G z_repr,d7 X G z_enumerate,d7 X G z_reversed,d7 X G z_str⟩,d7 X G z_set⟩,d7 X G z_abs⟩
 have GC_NoBack:=cx X G ac_NoBack
 have GC_NoRow:=cx X G ac_NoRow
 have GC_NoTable:=cx X G ac_NoTable
 have GC_NoText:=cx X G ac_NoText
 have GC_NotEven:=cx X G ac_NotEven
 have GC_NotStraight:=cx X G ac_NotStraight
 have GC_RoundError:=cx X G ac_RoundError
 have GC_TooFew:=cx X G ac_TooFew
 have GC_TooMany:=cx X G ac_TooMany
 have GC_hung:=cx X G ac_hung
 have GV:=d7 X G z_ValueError
 have kx:Kx K C_NoBack C_NoRow C_NoTable C_NoText C_NotEven C_NotStraight C_RoundError C_TooFew C_TooMany:=⟨⟨xE_ga,xE_gn,xE_cl,xE_gt,xE_tk,xE_ob,xE_bx,xE_is⟩,hE,oE,vE,eE,sE,fE,mE,⟨xF_ga,xF_gn,xF_cl,xF_gt,xF_tk,xF_ob,xF_bx,xF_is⟩,hF,oF,vF,eF,sF,fF,mF⟩
 have F0:=cP (st:=top 11) l0 c0 k0
 have b0:=F0.binds (ps:=["top","bottom"]) fun _ _ _ _ _ _ us hl=>by obtain ⟨_,_,rfl⟩:=xJ hl;rfl
 have F1:=cP (st:=top 12) l1 c1 k1
 have b1:=F1.binds (ps:=["one","other"]) fun _ _ _ _ _ _ us hl=>by obtain ⟨_,_,rfl⟩:=xJ hl;rfl
 have F2:=cP (st:=top 13) l2 c2 k2
 have b2:=F2.binds (ps:=["some"]) fun _ _ _ _ _ _ us hl=>by obtain ⟨_,rfl⟩:=aCQ hl;rfl
 have F3:=cP (st:=top 14) l3 c3 k3
 have b3:=F3.binds (ps:=["some","bottom"]) fun _ _ _ _ _ _ us hl=>by obtain ⟨_,_,rfl⟩:=xJ hl;rfl
 have F4:=cP (st:=top 16) l4 c4 k4
 have b4:=F4.binds (ps:=["table"]) fun _ _ _ _ _ _ us hl=>by obtain ⟨_,rfl⟩:=aCQ hl;rfl
 have F5:=cP (st:=top 18) l5 c5 k5
 have b5:=F5.binds (ps:=["table"]) fun _ _ _ _ _ _ us hl=>by obtain ⟨_,rfl⟩:=aCQ hl;rfl
 have F6:=cP (st:=top 19) l6 c6 k6
 have b6:=F6.binds (ps:=["table","ties"]) fun _ _ _ _ _ _ us hl=>by obtain ⟨_,_,rfl⟩:=xJ hl;rfl
 have F7:=cP (st:=top 21) l7 c7 k7
 have b7:=F7.binds (ps:=["table","prices"]) fun _ _ _ _ _ _ us hl=>by obtain ⟨_,_,rfl⟩:=xJ hl;rfl
 have F8:=cP (st:=top 22) l8 c8 k8
 have b8:=F8.binds (ps:=["table","tops","bottom"]) fun _ _ _ _ _ _ us hl=>by obtain ⟨_,_,_,rfl⟩:=aIk hl;rfl
 have F9:=cP (st:=top 24) l9 c9 k9
 have b9:=F9.binds (ps:=["cell","at"]) fun _ _ _ _ _ _ us hl=>by obtain ⟨_,_,rfl⟩:=xJ hl;rfl
 have F10:=cP (st:=top 25) l10 c10 k10
 have b10:=F10.binds (ps:=["script"]) fun _ _ _ _ _ _ us hl=>by obtain ⟨_,rfl⟩:=aCQ hl;rfl
 have F11:=cP (st:=top 26) l11 c11 k11
 have b11:=F11.binds (ps:=["feed","many"]) fun _ _ _ _ _ _ us hl=>by obtain ⟨_,_,rfl⟩:=xJ hl;rfl
 have F12:=cP (st:=top 27) l12 c12 k12
 have b12:=F12.binds (ps:=["thing"]) fun _ _ _ _ _ _ us hl=>by obtain ⟨_,rfl⟩:=aCQ hl;rfl
 have F13:=cP (st:=top 28) l13 c13 k13
 have b13:=F13.binds (ps:=["many"]) fun _ _ _ _ _ _ us hl=>by obtain ⟨_,rfl⟩:=aCQ hl;rfl
 have F14:=cP (st:=top 29) l14 c14 k14
 have b14:=F14.binds (ps:=["rows"]) fun _ _ _ _ _ _ us hl=>by obtain ⟨_,rfl⟩:=aCQ hl;rfl
 have F15:=cP (st:=top 30) l15 c15 k15
 have b15:=F15.binds (ps:=["feed","least","most"]) fun _ _ _ _ _ _ us hl=>by obtain ⟨_,_,_,rfl⟩:=aIk hl;rfl
 have F16:=cP (st:=top 31) l16 c16 k16
 have b16:=F16.binds (ps:=["feed","table"]) fun _ _ _ _ _ _ us hl=>by obtain ⟨_,_,rfl⟩:=xJ hl;rfl
 have F17:=cP (st:=top 32) l17 c17 k17
 have b17:=F17.binds (ps:=["act"]) fun _ _ _ _ _ _ us hl=>by obtain ⟨_,rfl⟩:=aCQ hl;rfl
 have F18:=cP (st:=top 33) l18 c18 k18
 have b18:=F18.binds (ps:=["top","bottom"]) fun _ _ _ _ _ _ us hl=>by obtain ⟨_,_,rfl⟩:=xJ hl;rfl
 have F19:=cP (st:=top 34) l19 c19 k19
 have b19:=F19.binds (ps:=["some"]) fun _ _ _ _ _ _ us hl=>by obtain ⟨_,rfl⟩:=aCQ hl;rfl
 have F20:=cP (st:=top 35) l20 c20 k20
 have b20:=F20.binds (ps:=["thing"]) fun _ _ _ _ _ _ us hl=>by obtain ⟨_,rfl⟩:=aCQ hl;rfl
 have F21:=cP (st:=top 36) l21 c21 k21
 have b21:=F21.binds (ps:=["ties","start"]) fun _ _ _ _ _ _ us hl=>by obtain ⟨_,_,rfl⟩:=xJ hl;rfl
 have F22:=cP (st:=top 37) l22 c22 k22
 have b22:=F22.binds (ps:=["many","thing"]) fun _ _ _ _ _ _ us hl=>by obtain ⟨_,_,rfl⟩:=xJ hl;rfl
 have F23:=cP (st:=top 38) l23 c23 k23
 have b23:=F23.binds (ps:=["many","ties"]) fun _ _ _ _ _ _ us hl=>by obtain ⟨_,_,rfl⟩:=xJ hl;rfl
 have F24:=cP (st:=top 39) l24 c24 k24
 have b24:=F24.binds (ps:=["places","counts"]) fun _ _ _ _ _ _ us hl=>by obtain ⟨_,_,rfl⟩:=xJ hl;rfl
 have F25:=cP (st:=top 40) l25 c25 k25
 have b25:=F25.binds (ps:=["table","prices"]) fun _ _ _ _ _ _ us hl=>by obtain ⟨_,_,rfl⟩:=xJ hl;rfl
 have F26:=cP (st:=top 41) l26 c26 k26
 have b26:=F26.binds (ps:=["feed","many"]) fun _ _ _ _ _ _ us hl=>by obtain ⟨_,_,rfl⟩:=xJ hl;rfl
 have F27:=cP (st:=top 42) l27 c27 k27
 have b27:=F27.binds (ps:=["table","prices","told"]) fun _ _ _ _ _ _ us hl=>by obtain ⟨_,_,_,rfl⟩:=aIk hl;rfl
 have F28:=cP (st:=top 43) l28 c28 k28
 refine ⟨du "law" "law" (bR (top 43)) (bL (top 43)) (aO (top 43)) .none kV28 dc28 pm28 an28 cd28 ct28,fun s v => .of_eq rfl,fun base _ _=>?_⟩
 have cM:Def l.prog w K mg base "common_measure" 1 ["one","other"] (aHj):=⟨f1,_,nB (P:=l.prog) (w:=w) (base:=base) F1 B   mV (aIp),cx X G a1,k1,b1⟩
 have lI:Def l.prog w K mg base "tops_over" 1 ["some","bottom"] (aIc K):=⟨f3,_,vS (P:=l.prog) (w:=w) (base:=base) F3 B   wK (aIo),cx X G a3,k3,b3⟩
 have iF:Def l.prog w K mg base "is_even" 1 ["table"] (aHQ K):=⟨f4,_,aAK (P:=l.prog) (w:=w) (base:=base) F4 B   aAG (aFt),cx X G a4,k4,b4⟩
 have nM:Def l.prog w K mg base "tree_sum" 1 ["table","ties"] (aHT K):=⟨f6,_,xO (P:=l.prog) (w:=w) (base:=base) F6 B   xI (aIC),cx X G a6,k6,b6⟩
 have rB:Def l.prog w K mg base "counted" 1 ["table","tops","bottom"] (aDh K):=⟨f8,_,aAo (P:=l.prog) (w:=w) (base:=base) F8 B   aAJ (aGl),cx X G a8,k8,b8⟩
 have iQ:Def l.prog w K mg base "_law_cmixed" 1 ["cell","at"] (aAM):=⟨f9,_,rR (P:=l.prog) (w:=w) (base:=base) F9 B   rV (aHu),cx X G a9,k9,b9⟩
 have kA:Def l.prog w K mg base "_law_copen" 1 ["script"] (yR K):=⟨f10,_,uM (P:=l.prog) (w:=w) (base:=base) F10 B   uI (aFl),cx X G a10,k10,b10⟩
 have cQ:Def l.prog w K mg base "_law_cwhole" 1 ["thing"] (K32.L.spW K):=⟨f12,_,sC (P:=l.prog) (w:=w) (base:=base) F12 B   rL (K32.L.rd_whole),cx X G a12,k12,b12⟩
 have dM:Def l.prog w K mg base "_law_cpairs" 1 ["many"] (fQ K):=⟨f13,_,rK (P:=l.prog) (w:=w) (base:=base) F13 B   rM (aEb),cx X G a13,k13,b13⟩
 have iR:Def l.prog w K mg base "_law_cshort" 1 ["rows"] (eM K):=⟨f14,_,rZ (P:=l.prog) (w:=w) (base:=base) F14 B   rT (aBp),cx X G a14,k14,b14⟩
 have cH:Def l.prog w K mg base "_law_clow" 1 ["top","bottom"] (jP K):=⟨f18,_,vI (P:=l.prog) (w:=w) (base:=base) F18 B   wO (aFX),cx X G a18,k18,b18⟩
 have iS:Def l.prog w K mg base "_law_cahead" 1 ["ties","start"] (aIb K):=⟨f21,_,rO (P:=l.prog) (w:=w) (base:=base) F21 B   rS (aDp),cx X G a21,k21,b21⟩
 have fR:Def l.prog w K mg base "_law_ctree_sum" 1 ["places","counts"] (aCU K):=⟨f24,_,mZ (P:=l.prog) (w:=w) (base:=base) F24 B   mY (aHv),cx X G a24,k24,b24⟩
 have uV:Def l.prog w K mg base "lowest" 2 ["top","bottom"] (jP K):=⟨f0,_,aBf (P:=l.prog) (w:=w) (base:=base) F0 B  cM aCy (aGT),cx X G a0,k0,b0⟩
 have gK:Def l.prog w K mg base "common_bottom" 2 ["some"] (aId K):=⟨f2,_,oO (P:=l.prog) (w:=w) (base:=base) F2 B  cM oP (aIR),cx X G a2,k2,b2⟩
 have iP:DefX l.prog w K mg base "least_tree" 2 ["table"] (zX K C_NotEven):=⟨f5,_,tV (P:=l.prog) (w:=w) (base:=base) F5 B GC_NotEven XC_NotEven iF nM uA (aFR),cx X G a5,k5,b5⟩
 have bB:Def l.prog w K mg base "_law_cdraw" 2 ["feed","many"] (eK):=⟨f11,_,uR (P:=l.prog) (w:=w) (base:=base) F11 B  iQ tI (aFK),cx X G a11,k11,b11⟩
 have jZ:Def l.prog w K mg base "_law_cplus" 2 ["some"] (yU K):=⟨f19,_,uC (P:=l.prog) (w:=w) (base:=base) F19 B  cH tP (aEL),cx X G a19,k19,b19⟩
 have eG:Def l.prog w K mg base "_law_cis_fraction" 2 ["thing"] (aIe K):=⟨f20,_,kH (P:=l.prog) (w:=w) (base:=base) F20 B  cH cQ kG (aIx),cx X G a20,k20,b20⟩
 have dC:Def l.prog w K mg base "_law_cis_tie" 2 ["many","thing"] (aAT K):=⟨f22,_,rA (P:=l.prog) (w:=w) (base:=base) F22 B  cQ pJ (aFe),cx X G a22,k22,b22⟩
 have iT:Def l.prog w K mg base "_law_cbound" 2 ["table","prices"] (aDe K):=⟨f25,_,rW (P:=l.prog) (w:=w) (base:=base) F25 B  cH dM fR sA (aGJ),cx X G a25,k25,b25⟩
 have rE:DefX l.prog w K mg base "hung" 3 ["table","prices"] (pU K C_NotEven C_TooFew):=⟨f7,_,aEY (P:=l.prog) (w:=w) (base:=base) F7 B GC_NotEven GC_TooFew XC_NotEven XC_TooFew gK rB iF uV lI iP aFn (aFx),cx X G a7,k7,b7⟩
 have gQ:Def l.prog w K mg base "_law_ceven" 3 ["feed","least","most"] (zD K):=⟨f15,_,tO (P:=l.prog) (w:=w) (base:=base) F15 B  bB dM iR tJ (aDP),cx X G a15,k15,b15⟩
 have fK:Def l.prog w K mg base "_law_cuneven" 3 ["feed","table"] (aHN K):=⟨f16,_,qC (P:=l.prog) (w:=w) (base:=base) F16 B  bB qX (aJd),cx X G a16,k16,b16⟩
 have gL:Def l.prog w K mg base "_law_cis_tree" 3 ["many","ties"] (aHX K):=⟨f23,_,oM (P:=l.prog) (w:=w) (base:=base) F23 B  iS dC oI (aDf),cx X G a23,k23,b23⟩
 have gY:Def l.prog w K mg base "_law_cprices" 3 ["feed","many"] (pE K):=⟨f26,_,pN (P:=l.prog) (w:=w) (base:=base) F26 B  bB cH qV (aBS),cx X G a26,k26,b26⟩
 have HV:∀ f sp,(foK K C_NotEven C_TooFew C_hung) f sp->DefV l.prog w K mg base 3 f sp:=by
  rintro f sp ⟨rfl,rfl⟩
  exact (rE.v GC_hung).mono (by decide)
 have eU:Def l.prog w K mg base "_law_crefused" 4 ["act"] (aCe K (foK K C_NotEven C_TooFew C_hung) C_NotEven C_TooFew):=⟨f17,_,oH (P:=l.prog) (w:=w) (base:=base) F17 B HV GC_NoBack GC_NoRow GC_NoTable GC_NoText GC_NotEven GC_NotStraight GC_RoundError GC_TooFew GC_TooMany GV  oK (aGg kx),cx X G a17,k17,b17⟩
 have fJ:Def l.prog w K mg base "_law_c_right" 4 ["table","prices","told"] (aHU K):=⟨f27,_,qN (P:=l.prog) (w:=w) (base:=base) F27 B  iT eG dC gL jZ pX (aIs),cx X G a27,k27,b27⟩
 exact aGN (P:=l.prog) (w:=w) (base:=base) F28 B GC_hung fJ gQ kA gY eU fK rE aGA (aGp)
theorem walk {l:PySem.W.OpenLaw}{q:Program}{loose:List Str}{XP:(Str->Option Value)->Heap->Prop}{YP:World->Heap->Prop}{d:DefRec}{K:Params->ae}(hn:l.most=some 63)(hdf:d.params.defaults=[])
  (hY:∀ (w:World) (h:Heap),YP w h->(K w.params).In h)
  (F:∀ (w:World) (mg:Str->Option Value) (fa:Addr) (h:Heap),(K w.params).In h->h.Ns bg mg->mg d.name=some (.ref fa) ->
   ∃ fd:FuncData,(∀ (s:Shared) (u:Value),A9 s fd ⟨[u],[]⟩ [("script",u)])/\∀ base:Heap,(K w.params).In base->base.Ns bg mg->FnOk l.prog w (K w.params) mg base CX0 5 fa fd ["script"] (aBP (K w.params))) :
  PySem.W.WalkO q loose XP YP l.row.toRowW d [] (fun f vs=>PySem.call f vs):=
 L2.aFJ (n:=63) (k:=5) (x:="script") (CX:=fun _=>CX0) (sp:=fun w=>aBP (K w.params)) hn (by decide) hdf ⟨rfl,by decide,by decide,rfl⟩ hY F (fun _ _ a ns hl _ hS=>⟨a,ns,rfl,hS,hl,fun _=>rfl⟩) fun _ _ _ _ _ z=>z
end K32
open PySem PySem.W PyProof.Rows
def PySem.W.Fast.tw1159658280517293678:Nat:=0
def PySem.W.Fast.tw6339156496039353191:Nat:=0
def PySem.W.Fast.tw9959891406175199269:Nat:=0
def PySem.W.Fast.tw9279837130279366030:Nat:=0
def PySem.W.Fast.tw6705388961693518331:Nat:=0
def PySem.W.Fast.tw5470402837310474069 : Nat := 0
def PySem.W.Fast.tw4539852418789784997 : Nat := 0
def PySem.W.Fast.tw9041027158045461977 : Nat := 0
def PySem.W.Fast.tw17210871136656197661 : Nat := 0
def PySem.W.Fast.tw8957218684389202072 : Nat := 0
def PySem.W.Fast.tw11054196779671350417 : Nat := 0
def PySem.W.Fast.tw13804209981235104240 : Nat := 0
def PySem.W.Fast.tw15356150143204588827 : Nat := 0
def PySem.W.Fast.tw17800109703987887747 : Nat := 0
def PySem.W.Fast.tw8694515798983741950 : Nat := 0
def PySem.W.Fast.tw9369817223390331527 : Nat := 0
set_option maxRecDepth 100000 in
set_option maxHeartbeats 0 in
theorem PySem.Challenge.cw_homeround_k32_trees_hung_holds : PySem.Challenge.rw_homeround_k32_trees_hung.Holds := by
  w_on; o_law; k_head; (case hw => w_witness2)
  k_fill
  refine K32.walk (l := PySem.Challenge.rw_homeround_k32_trees_hung) rfl rfl (fun w h Y => PySem.W.kIn_of Y) ?F
  case F =>
    intro w mg fa h KX G hmg
    refine' K32.all_mk KX G hmg ?a0 ?l0 ?c0 ?k0 ?a1 ?l1 ?c1 ?k1 ?a2 ?l2 ?c2 ?k2 ?a3 ?l3 ?c3 ?k3 ?a4 ?l4 ?c4 ?k4 ?a5 ?l5 ?c5 ?k5 ?a6 ?l6 ?c6 ?k6 ?a7 ?l7 ?c7 ?k7 ?a8 ?l8 ?c8 ?k8 ?a9 ?l9 ?c9 ?k9 ?a10 ?l10 ?c10 ?k10 ?a11 ?l11 ?c11 ?k11 ?a12 ?l12 ?c12 ?k12 ?a13 ?l13 ?c13 ?k13 ?a14 ?l14 ?c14 ?k14 ?a15 ?l15 ?c15 ?k15 ?a16 ?l16 ?c16 ?k16 ?a17 ?l17 ?c17 ?k17 ?a18 ?l18 ?c18 ?k18 ?a19 ?l19 ?c19 ?k19 ?a20 ?l20 ?c20 ?k20 ?a21 ?l21 ?c21 ?k21 ?a22 ?l22 ?c22 ?k22 ?a23 ?l23 ?c23 ?k23 ?a24 ?l24 ?c24 ?k24 ?a25 ?l25 ?c25 ?k25 ?a26 ?l26 ?c26 ?k26 ?a27 ?l27 ?c27 ?k27 ?a28 ?l28 ?c28 ?k28 ?z_len ?z_all ?z_min ?z_max ?z_sum ?z_isinstance ?z_sorted ?z_tuple ?z_list ?z_range ?z_int ?z_bool ?z_zip ?z_repr ?z_enumerate ?z_reversed ?z_str ?z_set ?z_abs ?ac_NoBack ?ac_NoRow ?ac_NoTable ?ac_NoText ?ac_NotEven ?ac_NotStraight ?ac_RoundError ?ac_TooFew ?ac_TooMany ?ac_hung ?XC_NotEven ?XC_TooFew ?z_ValueError ?xE_ga ?xE_gn ?xE_cl ?xE_gt ?xE_tk ?xE_ob ?xE_bx ?xE_is ?hE ?oE ?vE ?eE ?sE ?fE ?mE ?xF_ga ?xF_gn ?xF_cl ?xF_gt ?xF_tk ?xF_ob ?xF_bx ?xF_is ?hF ?oF ?vF ?eF ?sF ?fF ?mF
    (case a0 => k_is)
    (case l0 => k_is)
    (case c0 => k_is)
    (case k0 => k_is)
    (case a1 => k_is)
    (case l1 => k_is)
    (case c1 => k_is)
    (case k1 => k_is)
    (case a2 => k_is)
    (case l2 => k_is)
    (case c2 => k_is)
    (case k2 => k_is)
    (case a3 => k_is)
    (case l3 => k_is)
    (case c3 => k_is)
    (case k3 => k_is)
    (case a4 => k_is)
    (case l4 => k_is)
    (case c4 => k_is)
    (case k4 => k_is)
    (case a5 => k_is)
    (case l5 => k_is)
    (case c5 => k_is)
    (case k5 => k_is)
    (case a6 => k_is)
    (case l6 => k_is)
    (case c6 => k_is)
    (case k6 => k_is)
    (case a7 => k_is)
    (case l7 => k_is)
    (case c7 => k_is)
    (case k7 => k_is)
    (case a8 => k_is)
    (case l8 => k_is)
    (case c8 => k_is)
    (case k8 => k_is)
    (case a9 => k_is)
    (case l9 => k_is)
    (case c9 => k_is)
    (case k9 => k_is)
    (case a10 => k_is)
    (case l10 => k_is)
    (case c10 => k_is)
    (case k10 => k_is)
    (case a11 => k_is)
    (case l11 => k_is)
    (case c11 => k_is)
    (case k11 => k_is)
    (case a12 => k_is)
    (case l12 => k_is)
    (case c12 => k_is)
    (case k12 => k_is)
    (case a13 => k_is)
    (case l13 => k_is)
    (case c13 => k_is)
    (case k13 => k_is)
    (case a14 => k_is)
    (case l14 => k_is)
    (case c14 => k_is)
    (case k14 => k_is)
    (case a15 => k_is)
    (case l15 => k_is)
    (case c15 => k_is)
    (case k15 => k_is)
    (case a16 => k_is)
    (case l16 => k_is)
    (case c16 => k_is)
    (case k16 => k_is)
    (case a17 => k_is)
    (case l17 => k_is)
    (case c17 => k_is)
    (case k17 => k_is)
    (case a18 => k_is)
    (case l18 => k_is)
    (case c18 => k_is)
    (case k18 => k_is)
    (case a19 => k_is)
    (case l19 => k_is)
    (case c19 => k_is)
    (case k19 => k_is)
    (case a20 => k_is)
    (case l20 => k_is)
    (case c20 => k_is)
    (case k20 => k_is)
    (case a21 => k_is)
    (case l21 => k_is)
    (case c21 => k_is)
    (case k21 => k_is)
    (case a22 => k_is)
    (case l22 => k_is)
    (case c22 => k_is)
    (case k22 => k_is)
    (case a23 => k_is)
    (case l23 => k_is)
    (case c23 => k_is)
    (case k23 => k_is)
    (case a24 => k_is)
    (case l24 => k_is)
    (case c24 => k_is)
    (case k24 => k_is)
    (case a25 => k_is)
    (case l25 => k_is)
    (case c25 => k_is)
    (case k25 => k_is)
    (case a26 => k_is)
    (case l26 => k_is)
    (case c26 => k_is)
    (case k26 => k_is)
    (case a27 => k_is)
    (case l27 => k_is)
    (case c27 => k_is)
    (case k27 => k_is)
    (case a28 => k_is)
    (case l28 => k_is)
    (case c28 => k_is)
    (case k28 => k_is)
    (case z_len => k_is)
    (case z_all => k_is)
    (case z_min => k_is)
    (case z_max => k_is)
    (case z_sum => k_is)
    (case z_isinstance => k_is)
    (case z_sorted => k_is)
    (case z_tuple => k_is)
    (case z_list => k_is)
    (case z_range => k_is)
    (case z_int => k_is)
    (case z_bool => k_is)
    (case z_zip => k_is)
    (case z_repr => k_is)
    (case z_enumerate => k_is)
    (case z_reversed => k_is)
    (case z_str => k_is)
    (case z_set => k_is)
    (case z_abs => k_is)
    (case ac_NoBack => k_is)
    (case ac_NoRow => k_is)
    (case ac_NoTable => k_is)
    (case ac_NoText => k_is)
    (case ac_NotEven => k_is)
    (case ac_NotStraight => k_is)
    (case ac_RoundError => k_is)
    (case ac_TooFew => k_is)
    (case ac_TooMany => k_is)
    (case ac_hung => k_is)
    (case XC_NotEven => first | k_is | kernel_rfl)
    (case XC_TooFew => first | k_is | kernel_rfl)
    (case z_ValueError => k_is)
    (case xE_ga => first | k_is | kernel_rfl)
    (case xE_gn => first | k_is | kernel_rfl)
    (case xE_cl => first | k_is | kernel_rfl)
    (case xE_gt => first | k_is | kernel_rfl)
    (case xE_tk => first | k_is | kernel_rfl)
    (case xE_ob => first | k_is | kernel_rfl)
    (case xE_bx => first | k_is | kernel_rfl)
    (case xE_is => first | k_is | kernel_rfl)
    (case hE => first | k_is | kernel_rfl)
    (case oE => first | k_is | kernel_rfl)
    (case vE => first | k_is | kernel_rfl)
    (case eE => first | k_is | kernel_rfl)
    (case sE => first | k_is | kernel_rfl)
    (case fE => first | k_is | kernel_rfl)
    (case mE => first | k_is | kernel_rfl)
    (case xF_ga => first | k_is | kernel_rfl)
    (case xF_gn => first | k_is | kernel_rfl)
    (case xF_cl => first | k_is | kernel_rfl)
    (case xF_gt => first | k_is | kernel_rfl)
    (case xF_tk => first | k_is | kernel_rfl)
    (case xF_ob => first | k_is | kernel_rfl)
    (case xF_bx => first | k_is | kernel_rfl)
    (case xF_is => first | k_is | kernel_rfl)
    (case hF => first | k_is | kernel_rfl)
    (case oF => first | k_is | kernel_rfl)
    (case vF => first | k_is | kernel_rfl)
    (case eF => first | k_is | kernel_rfl)
    (case sF => first | k_is | kernel_rfl)
    (case fF => first | k_is | kernel_rfl)
    (case mF => first | k_is | kernel_rfl)
