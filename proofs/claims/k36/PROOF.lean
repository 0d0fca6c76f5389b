import PyProof.Rows.All
import Wide.All
import OpenK.AllK
import Wide.FinOn
import Lean
import PyProof.EqAt
import PyProof.EqKinds
import PyProof.TupleCall
import PyProof.Rows.SetFrom
import PyProof.ExcAttrAll.ValueError
import KE.KDictList
import KE.KRevIter
import KE.KPairComp
import PyProof.EqAt
import KE.KSortTup
import PyProof.DictValues
import PyProof.DictWalks
import KE.KDictList
import KE.KItemsList
import KE.KIsAll
import KE.KIntText
import KE.KRevSl
import PyProof.StrCalls2
import PyProof.CallStr
import PyProof.StrLawsTight
import PyProof.StrLawsChain
import KE.KLam
import KE.KMinKey
import KE.KNestM
import PyProof.ExcInit
import PySem.Challenge.RW_homeround_k36_shares_told
set_option Elab.async false
set_option linter.all false
set_option maxRecDepth 100000
set_option maxHeartbeats 4000000
noncomputable section
open PySem renaming wpAny_bind->aa,wpAny_pure->ao,sizeLine->bx,mainGlobals->c7,wpAny_call_entry->dt,wpAny_callSpecial?_slot->dz,bootBuiltins->e9,wpAny_newObj_type->fc,starEach->fi,intKind->fm,wpAny_holding->fq,wpAny_setState_of->gc,mem_of_lookup->gh,compareOp->gj,wpAny_truthy_bool->gm,wpAny_field->gp,wpAny_setField_rec->gr,codeAny_builtin->gw,Spec->gx,IsTupleKey->iy,wpAny_seqItems->i5,wpAny_askSetting->i8,rawInt->jb,wpAny_mono->jl,codeAny_mono->jm,sizeLine_eq->jt,wpAny_isInstance->j6,cellsFrom->j8,wpAny_setEntries_of->kr,wpAny_setField->lg,binaryOp->lh,wpAny_passesOwn->lr,wpAny_attempt->mi,wpAny_forIn_list->mn,tupleKeyHash->nc,wpAny_specialOf->ng,wpAny_rule->nh,foldedSetIterable->ni,firstArgMember->oh,wpAny_standAt->qa,wpAny_pyIter_tuple->qd,wpAny_newList->qe,pyNext->qh,assignEach->ql,sliceBounds->qm,wpAny_of_eq->qp,wpAny_pyIter_list->qq,wpAny_storeSet_of->qr,wpAny_pyIter_slot->qt,ofAClassStatement->qw,wpAny_runValue->qz,isSubtype_type->q9,wpAny_typeOf->rh,isSubtype_tuple_tuple->rj,wpAny_updateSeq_pair->rq,plainId_quiet->tf,letOwnedTupleGo->tu,wpAny_loadPart'->tw,codeAny_of_tree->t8,wpAny_Call_Name_kw->uu,wpAny_tupleItemsOf->u5,wpAny_eqBool_tuple->u6,wpAny_newTuple->vf,isSubtype_stop->vg,wpAny_fieldsOf->vh,backTo->vo,wpAny_comprehension_free->vt,IsPair->vx,intKind_is->vz,setsByText->v3,wpAny_pyNext_tuple_item->wc,behindInMarks->we,codeAny->wg,attributeBase->wj,wpAny_onRaise->wo,wpAny_eqBool_int->w5,Result->w6,noFill_tuple_add->w8,wpAny_pyNext_tuple_end->xa,wpAny_pyIter_tupleiter->xb,richCompare_meets_room->xc,wpAny_execs_nil->xl,pushCells_keeps->xp,setAddHashed->yc,weight_type_call_type->yd,builtinLookup_eq_fast->ye,wpAny_eqIsQuiet_tuple->yk,sysModules->yq,bindArgs->yr,reduceHash->yt,codeAny_call_builtin->yx,newFunctionEnv->y9,wpAny_letGo->zh,setNext->zo,hashByValue->zp,assignInOrder->zu,pyIter->zv,seq_tuple_add->zw,wpAny_handled->zy,setField->Aa,hashInt->Ae,builtinsNs->Af,holding->Ag,wpAny_load->Ah,BindsTo->Ai,getItem->Aj,call_meets->Ak,callerA->An,relabel->Ao,assign->Au,concat_meets->Av,seqIndex_neg->Ax,standAt->AJ,richCompare->AK,seqIndex_of->AL,pushCells->AM,collect->AO,wpAny_throw->AQ,IsEnum->AS,eqIsQuiet->AU,newList->A2
open PySem.W renaming Frag->ae,nsIn->dy,fnOf->jx,excIn->j9,mg_of->ka,kas_sort->k7,keepIn->n5,kas_place->oo,cellsFrom_some->qi,kas_rev->rl,kas_desc->u7,kas_descPart->u9,codeIn->ve,methodObj->vn,kas_asc->wt,hideAll_get->zd,kas_count->Ab,kas_tail3->AV,kas_bin->AW
open List renaming length_map->af,getElem?_eq_getElem->ah,getElem?_eq_some_iff->ai,getD_eq_getElem?_getD->ak,range->aq,size_toArray->ar,mem_of_getElem?->au,length_append->bc,mem_cons_of_mem->bf,getElem?_map->bh,mem_cons_self->bp,mem_map->bt,all_eq_true->bw,map_append->bz,length_take->b9,mem_cons->cm,length_cons->cy,map_cons->c4,getElem?_append_right->c5,getElem?_append_left->c8,mem_range->da,length_set->df,replicate->dg,mem_append_right->di,length_filter_le->dj,take_length->dn,map_map->dr,mem_append->du,getElem?_set_ne->dv,mem_singleton->dw,length_range->e7,mem_iff_getElem?->fh,take_add_one->fz,getElem_mem->f6,mem_filter->gf,append_nil->gu,lookup_cons->gv,append_assoc->gz,getElem?_toArray->il,not_mem_nil->ip,nodup_cons->iz,forIn_cons->i4,toArray->je,filter_append->jk,length_drop->jn,getElem_map->jq,getElem?_set_self->jr,mem_map_of_mem->ju,mem_append_left->j7,filter_cons_of_pos->kc,filter_cons_of_neg->kd,sum_cons->ke,forIn_nil->kg,length_nil->kn,getElem?_drop->k9,getElem?_take_of_lt->lu,flatMap_cons->ly,getElem?_replicate->md,replicate_succ->mf,length_eq_zero_iff->mh,range_succ_eq_map->mw,zip_cons_cons->my,getElem_range->m3,length_replicate->m8,any_cons->nj,map_take->nk,pairwise_map->nr,perm_ext_iff_of_nodup->n4,pairwise_iff_getElem->oq,getElem_inj->ou,ext_getElem->oz,any_eq_true->o6,getElem_of_mem->o7,mem_filterMap->qb,pairwise_lt_range->qk,flatten_cons->qo,getElem?_eq_none->rk,pairwise_append->sd,mem_of_mem_take->se,all_cons->sf,map_drop->sr,filterMap_cons->tq,find?_cons->t7,map_congr_left->ug,getElem?_range->uk,map_nil->uw,pairwise_cons->uz,all_map->u3,map_inj_right->vc,nodup_nil->vi,ext_getElem?->v8,getElem?_set->v9,of_mem_zip->xm,length_singleton->xo,range_succ->xq,countP_mono_left->xx,contains_iff_mem->xy,take_append_drop->ya,any_map->yi,pairwise_and_iff->yp,mem_of_mem_drop->y4,length->ze,filter_eq_self->zq
open PySem.Heap renaming get?_push_of_some->aj,get?_push_size->ay,lt_size->bj,size_push->e8,SameBut->fg,get?_update_self->jd,get?_update_ne->uc,ExtBut->wm,get?_update_other->xg,get?_push_cases->yv
open Nat renaming zero_le->av,lt_of_lt_of_le->aw,le_refl->ba,lt_of_le_of_lt->bo,pow_le_pow_right->br,ne_of_lt->c6,le_trans->c9,lt_succ_of_lt->fj,le_of_lt->ig,le_add_right->i9,ne_of_gt->ja,lt_succ_self->jo,lt_irrefl->kx,not_lt_zero->l9,lt_succ_iff_lt_or_eq->ph,lt_trichotomy->qv,gcd_comm->vd,le_of_succ_le->vq,le_succ->wk,mul_le_mul_right->yz,add_zero->AA,sub_self->AF,lt_or_ge->AG,add_mul->AN
open Option.some renaming inj->az
open PySem.SetTable renaming below->bg,leap->gg,runEnd->i7,insertAt->ma,bits->mm,turns->mr,sizeAbove->m7,toList_insertAt->pg,grown->rf,probe->rg,insertAt_perm->xj,has->yj,fill->Ac
open Bool renaming false_ne_true->bq,and_eq_true->b7,false_eq_true->dk,not_eq_true->dq,true_and->ff,false_and->gy,not_true->jh,or_eq_true->qg,and_eq_true_iff->rn,false_or->sk,and_true->zx,true_or->Ay
open Int renaming toNat_natCast->bu,mul_assoc->cv,mul_comm->de,mul_left_comm->fk,mul_zero->fv,mul_le_mul_of_nonneg_right->gs,mul_nonneg->iq,mul_ediv_cancel_left->jf,neg_mul->jv,zero_add->kh,mul_one->kl,le_of_lt->k4,mul_pos->o9,zero_mul->pw,mul_add->qx,le_refl->qy,le_antisymm->uf,add_mul->ui,one_mul->uj,le_of_mul_le_mul_right->uq,natAbs_mul->vj,eq_of_mul_eq_mul_left->vk,le_of_dvd->w4,emod_nonneg->xw,natAbs_dvd_natAbs->yn,add_zero->yo,mul_ediv_cancel'->yy,ediv_one->Aw,add_comm->AH,mul_neg->A1
open Array renaming getElem?_eq_getElem->b8,length_toList->cg,getD_eq_getD_getElem?->cq,getElem?_eq_none->gk,getElem?_toList->k8,toList_inj->mq,forIn_toList->mz,perm_iff_toList_perm->nz,getElem_toList->sa,replicate->uh,getElem_mem->vy,toList_filterMap->xk,toList->As
open Classical renaming byContradiction->cz
open PySem.PassesOwn renaming never->dh
open PySem.Builtin.SmallTypes renaming nextOf->fe,ownedTupleIsFree->f9,ownedTupleHandOut->i6
open PySem.Builtin.Tuple renaming tupleHashOf->ft,tupleExact->lx,tupleItemsOf->nv
open PySem.Heap.SameBut renaming update->f7
open PySem.SeqAt renaming EqAt->gi,notIn_tupleAt->zg
open PyProof.Rows renaming slot_tuple_getitem->gq,callWith_type1->jg,seqObj->jw,listUpdate_at->su,assignInOrder_cons->ur,SortSt->va,failedOf->vb,AllBare->wa,SortKind->wz,subscriptTail_builtinR->xf,envOfC->xn,listItems_at->xr,get?_update_seq->xt,entry_list_sort->yh,slot_list_sort->za,args_list_sort->zb,entry_tuple_getitem->zf,mirror_size->zj,tuples'->zk,seqEpoch_at->zm,sortedHeap->Aq,plain_sorted->AB,entry_sorted->AD,args_sorted1->AE,kind_sorted->AX,pendingOf->AY
open PySem.Around renaming under_plainId->ic
open PySem.F renaming called_set->ij,plainAttrs_list->jj,slot_list_append->j4,type_list_append->j5,slot_tuple_iterator_next->ku,slot_enumerate_next->m9,slot_tuple_hash->nq,args_tuple_add_2->pe,entry_tuple_add->qc,slot_tuple_add->qj,plain_list_iadd->qu,args_tuple_iterator_next_1->sv,entry_tuple_iterator_next->t9,slot_zip_next->ua,slot_tuple_eq->ub,slot_set_iter->ud,args_enumerate_next_1->wq,entry_enumerate_next->xi,entry_proto_collect->yf,plain_proto_collect->yg,excBase_ValueError->yw
open Ne renaming symm->iw
open Option renaming isSome_iff_exists->jc,map_eq_some_iff->js
open PyProof.Rows.F renaming plain_set_update_loop->ji,entry_set_update_loop->mj
open PySem.Str renaming ofString->jy
open PySem.Obj renaming mapSeq->jz,isFreed_of_fields->ky,data_mapFields->kz,mapFields->tm,cls_mapFields->vw,putSet->Ar
open PySem.AutoSeq1 renaming wpAny_loadPart'->j3,sub_tuple_tuple->vp
open PySem.Builtin.List renaming listExtendWith->kq,listTooLong->pf,listLengthHint->ue,listUpdate->wu
open PySem.Builtin.Slice renaming slicePlaces->la,sliceAdjust->n9,sliceApplied->uo
open False renaming elim->lq
open PySem.SetTable.layClean renaming free->mx
open PySem.SetTable.below renaming go->nt
open PySem.PyData renaming hasDict->og,hasDictAll->vv,depthAll->xu
open PySem.Calls renaming call_function_entry->ot,Name_function_global->um,callWith_builtin->xh,evalArgs_plain->yu
open PySem.Builtin.Int renaming intBits->o8
open List.Perm renaming eq_of_pairwise->pk
open Array.Perm renaming refl->qf
open PySem.Builtin.Frozenset renaming updateFrom->tj,sizeOf->v5,slot0->wx
open LawfulBEq renaming eq_of_beq->t6
open PySem.SeqAt.EqAt renaming int_int->uv
open PySem.Code renaming quiet_builtin->u4
open PySem.Value renaming isInt_shape->vm
open PySem.SetTable.probe renaming go->v7
open PySem.Builtin renaming sorted->w9
open List.cons renaming injEq->ym,inj->Ad
open PySem.pickOrder renaming go->Az
open Prod renaming ext->AI
open PySem.Shared renaming heap->AR
namespace L2
open PySem PySem.Spec PyProof.Rows
abbrev Key:=Sum Int Str
def aIE:Key->Value->Bool
 | .inl k,v=>Value.isInt k v
 | .inr x,v=>Value.isStrOf x v
def aLs (w:World):Key->Int
 | .inl k=>Ae k
 | .inr x=>hashStr w x
theorem dC:∀{k:Key}{v:Value},aIE k v=true->(∃i t,k=Sum.inl i/\v=Value.int i t)\/(∃x t,k=Sum.inr x/\v=Value.str x t)
 | .inl i,v,h=>by
  obtain⟨t,e⟩:=vm (k:=i) (v:=v) h
  exact .inl ⟨i,t,rfl,e⟩
 | .inr x,v,h=>by
  obtain⟨t,e⟩:=Value.isStrOf_shape (x:=x) (v:=v) h
  exact .inr ⟨x,t,rfl,e⟩
theorem aIi (a b:Int):decide ((Sum.inl a:Key)=Sum.inl b)=(a == b):=by
 by_cases e:a=b
 ·subst e;simp
 ·have h:¬ (Sum.inl a:Key)=Sum.inl b:=λq=>e (Sum.inl.inj q)
  rw[decide_eq_false h]
  exact(beq_eq_false_iff_ne.mpr e).symm
theorem aHx (a b:Str):decide ((Sum.inr a:Key)=Sum.inr b)=decide (a=b):=by
 by_cases e:a=b
 ·subst e;simp
 ·have h:¬ (Sum.inr a:Key)=Sum.inr b:=λq=>e (Sum.inr.inj q)
  rw[decide_eq_false h,decide_eq_false e]
theorem aHL (a:Int)(b:Str):decide ((Sum.inl a:Key)=Sum.inr b)=false:=decide_eq_false (λq=>nomatch q)
theorem aJd (a:Str)(b:Int):decide ((Sum.inr a:Key)=Sum.inl b)=false:=decide_eq_false (λq=>nomatch q)
def aCm (prog:Program) (w:World):PySem.KeyKind prog w Key where
 is:=aIE
 hash:=aLs w
 inj:=λv a b ha hb=>by
  rcases dC ha with⟨i,t,rfl,rfl⟩ | ⟨x,t,rfl,rfl⟩
  ·rcases dC hb with⟨j,u,rfl,e⟩ | ⟨y,u,rfl,e⟩
   ·injection e with e1 _;rw[e1]
   ·exact nomatch e
  ·rcases dC hb with⟨j,u,rfl,e⟩ | ⟨y,u,rfl,e⟩
   ·exact nomatch e
   ·injection e with e1 _;rw[e1]
 byValue:=λk v h=>by
  rcases dC h with⟨i,t,rfl,rfl⟩ | ⟨x,t,rfl,rfl⟩ <;> rfl
 pyHash:=λhv h=>by
  rcases dC hv with⟨i,t,rfl,rfl⟩ | ⟨x,t,rfl,rfl⟩
  ·exact wpAny_pyHash_int h
  ·exact wpAny_pyHash_str h
 eqBool:=λhu hv h=>by
  rcases dC hu with⟨i,t,rfl,rfl⟩ | ⟨x,t,rfl,rfl⟩
  ·rcases dC hv with⟨j,u,rfl,rfl⟩ | ⟨y,u,rfl,rfl⟩
   ·rw[aIi] at h;exact w5 h
   ·rw[aHL] at h;exact SeqAt.EqAt.int_str i t y u _ _ _ _ h
  ·rcases dC hv with⟨j,u,rfl,rfl⟩ | ⟨y,u,rfl,rfl⟩
   ·rw[aJd] at h;exact SeqAt.EqAt.str_int x t j u _ _ _ _ h
   ·rw[aHx] at h;exact wpAny_eqBool_str h
 «strs»:=λk x t v h=>by
  rcases dC h with⟨i,u,rfl,e⟩ | ⟨y,u,rfl,e⟩
  ·exact nomatch e
  ·injection e with e1 _
   subst e1
   cases v <;> rfl
inductive V where
 |non | bl (b:Bool) | int (i:Int) | str (x:Str) | byt (b:Array UInt8) | flt (b:UInt64) | ref (a:Addr) | ty (n:String)
 deriving DecidableEq
def RelV:V->Value->Prop
 | .non,u=>u=Value.none
 | .bl b,u=>u=Value.bool b
 | .int i,u=>∃t,u=Value.int i t
 | .str x,u=>∃t,u=Value.str x t
 | .byt b,u=>∃t,u=Value.bytes b t
 | .flt b,u=>∃t,u=Value.float b t
 | .ref a,u=>u=Value.ref a
 | .ty n,u=>u=Value.type n
abbrev Vals:List V->List Value->Prop:=Paired RelV
theorem Vals.length {xs:List V}{us:List Value}(r:Vals xs us):xs.length=us.length:=Paired.length r
theorem Vals.get:∀{xs:List V}{us:List Value}{i:Nat}{x:V},Vals xs us->xs[i]?=some x->∃u,us[i]?=some u/\RelV x u
 |_,_,_,_, .nil,e=>by simp at e
 |_,_,0,_, .cons r _,e=>by simp at e;subst e;exact⟨_,rfl,r⟩
 |_,_,i+1,x, .cons _ t,e=>by
  obtain⟨u,h1,h2⟩:=Vals.get (i:=i) (x:=x) t (by simpa using e)
  exact⟨u,by simpa using h1,h2⟩
theorem Vals.set {x:V}{u:Value}(r:RelV x u):∀{xs:List V}{us:List Value} (i:Nat),Vals xs us->Vals (xs.set i x) (us.set i u)
 |_,_,_, .nil => .nil
 |_,_,0, .cons _ t => .cons r t
 |_,_,i+1, .cons q t => .cons q (Vals.set r i t)
theorem Vals.append:∀{xs ys:List V}{us ws:List Value},Vals xs us->Vals ys ws->Vals (xs++ys) (us++ws)
 |_,_,_,_, .nil,s=>s
 |_,_,_,_, .cons r t,s => .cons r (Vals.append t s)
theorem Vals.take:∀{xs:List V}{us:List Value} (n:Nat),Vals xs us->Vals (xs.take n) (us.take n)
 |_,_,0,_ => .nil
 |_,_,_+1, .nil => .nil
 |_,_,n+1, .cons r t => .cons r (Vals.take n t)
theorem Vals.drop:∀{xs:List V}{us:List Value} (n:Nat),Vals xs us->Vals (xs.drop n) (us.drop n)
 |_,_,0,r=>r
 |_,_,_+1, .nil => .nil
 |_,_,n+1, .cons _ t=>Vals.drop n t
def RelO:Option V->Option Value->Prop
 |some v,some u=>RelV v u
 |none,none=>True
 |_,_=>False
def KV {κ:Type}:List (κ×V)->List (κ×Value)->Prop:=Paired λ(p:κ×V) (q:κ×Value)=>p.1=q.1/\RelV p.2 q.2
def kV:Key->V
 | .inl i => .int i
 | .inr x => .str x
inductive HO where
 |lst (xs:List V)
 |tup (xs:List V)
 |dK (kvs:List (Key×V)) | dT (kvs:List (List Key×V))
 |set (S:Int->Bool) (n:Nat)
 |ins (C dx:Addr) (fs:List (Str×V))
 |own (x:Addr)
 |xd (fs:List (Str×V))
 |met (f x:Addr)
 |rng (lo hi:Int)
 |frz (o:Obj) (u:HO)
 |tbl (ps:Array Value)
 |ext (φ:Heap->Prop)
abbrev Hp:=Addr->Option HO
def upd (H:Hp) (a:Addr) (o:HO):Hp:=λb=>if b=a then some o else H b
theorem aG {H:Hp}{a:Addr}{o:HO}:upd H a o a=some o:=by unfold upd;rw[if_pos rfl]
theorem bC {H:Hp}{a b:Addr}{o:HO}(h:b≠a):upd H a o b=H b:=by unfold upd;rw[if_neg h]
theorem ne_of {H:Hp}{a b:Addr}{o u:HO}(h:H a=some o)(h':H b=some u)(d:o≠u):a≠b:=by
 intro e;subst e;rw[h] at h';exact d (az h')
theorem bK {H:Hp}{a b:Addr}{o:HO}(h:H a=some o)(h':H b=none):a≠b:=by
 intro e;subst e;rw[h] at h';cases h'
def TupN (h:Heap) (a:Addr) (items:Array Value):Prop:=∃o,h.get? a=some o/\o.cls = .type "tuple"/\(∃n,o.data = .seq items n)/\o.dict=none
theorem TupN.tup {h:Heap}{a:Addr}{items:Array Value}(p:TupN h a items):IsTup h a items:=let⟨o,e,c,n,_⟩:=p;⟨o,e,c,n⟩
theorem TupN.new (h:Heap)(items:Array Value):TupN (h.push { cls := .type "tuple",data := .seq items }) h.objs.size items:=⟨_,ay _ rfl,rfl,⟨_,rfl⟩,rfl⟩
section
variable (P:Program)(w:World)
def ObjOk (H:Hp) (h:Heap) (a:Addr):HO->Prop
 | .lst xs=>xs.length<=bx/\∃(its:List Value) (n:Nat),Vals xs its/\h.get? a=some { cls := .type "list",data := .seq its.toArray n }
 | .tup xs=>xs.length<=bx/\∃its:List Value,Vals xs its/\TupN h a its.toArray
 | .dK kvs=>kvs.length<=bx/\(a == yq)=false/\∃vs,KV kvs vs/\h.DictOf (aCm P w) a vs
 | .dT kvs=>kvs.length<=bx/\(a == yq)=false/\∃xs:List (List Key×Addr×Value),
   Paired (λ(p:List Key×V) (q:List Key×Addr×Value)=>p.1=q.1/\H q.2.1=some (.tup (p.1.map kV))/\RelV p.2 q.2.2) kvs xs /\
   ∃o es ep,h.get? a=some o/\o.ExactDict/\o.data = .dict es ep/\es.toList=xs.map (entryOfKey (tupleKind (aCm P w)))/\(xs.map (·.1)).Nodup
 | .set S n=>h.SetOf (fm P w) a S n
 | .ins C dx fs=>H dx=some (.own a)/\fs.length<=1000/\dx≠a/\h.get? a=some (PySem.W.instObj C dx) /\
   ∃mA,h.Ns1 dx mA/\(∀f,RelO (fs.lookup f) (mA f))/\PySem.Within mA (fs.map (·.1))
 | .own _=>∃o,h.get? a=some o
 | .xd fs=>∃mA,h.Ns1 a mA/\∀f,RelO (fs.lookup f) (mA f)
 | .rng lo hi=>∃t u v,h.get? a=some { cls := .type "range",data := .fields #[.int lo t, .int hi u, .int 1 v] }
 | .frz o u=>h.get? a=some o/\ObjOk H h a u
 | .tbl ps=>h.get? a=some { cls := .none,data := .fields ps }
 | .met f x=>h.get? a=some (vn (.ref f) (.ref x))
 | .ext φ=>φ h/\(∃o,h.get? a=some o)/\∀h1 h2:Heap,φ h1->(∀o,h1.get? a=some o->h2.get? a=some o)->φ h2
def HOk (H:Hp) (h:Heap):Prop:=∀a o,H a=some o->ObjOk P w H h a o
end
section
variable {P:Program}{w:World}{H H':Hp}{h h':Heap}{a:Addr}{o:HO}
theorem ObjOk.lt (x:ObjOk P w H h a o):a<h.objs.size:=by
 cases o with
 |lst xs=>obtain⟨_,_,_,_,e⟩:=x;exact bj e
 |tup xs=>obtain⟨_,_,_,p⟩:=x;exact p.tup.lt
 |dK kvs=>obtain⟨_,_,_,_,o,_,_,e,_⟩:=x;exact bj e
 |dT kvs=>obtain⟨_,_,_,_,o,_,_,e,_⟩:=x;exact bj e
 |set S n=>obtain⟨o,_,_,_,e,_⟩:=x;exact bj e
 |ins C dx fs=>obtain⟨_,_,_,e,_⟩:=x;exact bj e
 |own y=>obtain⟨_,e⟩:=x;exact bj e
 |xd fs=>obtain⟨_,⟨_,_,_,e,_⟩,_⟩:=x;exact bj e
 |rng lo hi=>obtain⟨_,_,_,e⟩:=x;exact bj e
 |frz ob u=>obtain⟨e,_⟩:=x;exact bj e
 |tbl ps=>exact bj (show h.get? a=some _ from x)
 |met f y=>exact bj (show h.get? a=some _ from x)
 |ext φ=>obtain⟨_,⟨_,e⟩,_⟩:=x;exact bj e
theorem Paired.mapP {α β:Type}{F G:α->β->Prop}:∀{l₁:List α}{l₂:List β},Paired F l₁ l₂->(∀a b,F a b->G a b)->Paired G l₁ l₂
 |_,_, .nil,_ => .nil
 |_,_, .cons r t,f => .cons (f _ _ r) (Paired.mapP t f)
theorem ObjOk.stay (x:ObjOk P w H h a o)(k:∀b u,(b=a\/H b=some (.own a))->h.get? b=some u->h'.get? b=some u)
  (ho:∀b,H b=some (.own a)->H' b=some (.own a)) (ht:∀b xs,H b=some (.tup xs)->H' b=some (.tup xs)):ObjOk P w H' h' a o:=by
 induction o with
 |lst xs=>obtain⟨z,its,n,r,e⟩:=x;exact⟨z,its,n,r,k _ _ (.inl rfl) e⟩
 |tup xs=>obtain⟨z,its,r,ob,e,c⟩:=x;exact⟨z,its,r,ob,k _ _ (.inl rfl) e,c⟩
 |dK kvs=>obtain⟨z,y,vs,r,ob,es,ep,e,c⟩:=x;exact⟨z,y,vs,r,ob,es,ep,k _ _ (.inl rfl) e,c⟩
 |dT kvs=>
  obtain⟨z,y,xs,r,ob,es,ep,e,c⟩:=x
  exact⟨z,y,xs,Paired.mapP r λp q z=>⟨z.1,ht _ _ z.2.1,z.2.2⟩,ob,es,ep,k _ _ (.inl rfl) e,c⟩
 |set S n=>obtain⟨ob,es,ep,t,e,c⟩:=x;exact⟨ob,es,ep,t,k _ _ (.inl rfl) e,c⟩
 |ins C dx fs=>
  obtain⟨d,z,ne,e,mA,⟨od,es,ep,e2,c⟩,r⟩:=x
  exact⟨ho _ d,z,ne,k _ _ (.inl rfl) e,mA,⟨od,es,ep,k _ _ (.inr d) e2,c⟩,r⟩
 |own y=>obtain⟨ob,e⟩:=x;exact⟨ob,k _ _ (.inl rfl) e⟩
 |xd fs=>obtain⟨mA,⟨od,es,ep,e,c⟩,r⟩:=x;exact⟨mA,⟨od,es,ep,k _ _ (.inl rfl) e,c⟩,r⟩
 |rng lo hi=>obtain⟨t,u,v,e⟩:=x;exact⟨t,u,v,k _ _ (.inl rfl) e⟩
 |frz ob u ih=>obtain⟨e,q⟩:=x;exact⟨k _ _ (.inl rfl) e,ih q⟩
 |tbl ps=>
  have e:h.get? a=some { cls := .none,data := .fields ps }:=x
  show h'.get? a=some { cls := .none,data := .fields ps }
  exact k a _ (.inl rfl) e
 |met f y=>
  have e:h.get? a=some (vn (.ref f) (.ref y)):=x
  show h'.get? a=some (vn (.ref f) (.ref y))
  exact k a _ (.inl rfl) e
 |ext φ=>obtain⟨p,⟨o,e⟩,st⟩:=x;exact⟨st _ _ p λo q=>k _ _ (.inl rfl) q,⟨o,k _ _ (.inl rfl) e⟩,st⟩
theorem HOk.lt (x:HOk P w H h)(e:H a=some o):a<h.objs.size:=(x a o e).lt
theorem HOk.fresh (x:HOk P w H h)(e:h.objs.size<=a):H a=none:=by
 cases q:H a with
 |none=>rfl
 |some u=>exact absurd (aw (x.lt q) e) (kx _)
theorem HOk.kept (x:HOk P w H h)(k:∀b u,h.get? b=some u->h'.get? b=some u):HOk P w H h':=λa o e=>
 (x a o e).stay (λb u _ q=>k b u q) (λ_ q=>q) λ_ _ q=>q
theorem HOk.laid (x:HOk P w H h)(k:∀b u,h.get? b=some u->h'.get? b=some u)(hp:h.objs.size<=a)(new:ObjOk P w (upd H a o) h' a o):HOk P w (upd H a o) h':=λb u e=>by
 have hn:=x.fresh hp
 by_cases hb:b=a
 ·subst hb;rw[aG] at e;cases e;exact new
 ·rw[bC hb] at e
  exact(x b u e).stay (λc v _ q=>k c v q) (λc q=>by rw[bC (bK q hn)];exact q) λc xs q=>by rw[bC (bK q hn)];exact q
end
def Rd (H:Hp) (a:Addr) (u:HO):Prop:=H a=some u\/∃o,H a=some (.frz o u)
theorem Rd.of {H:Hp}{a:Addr}{u:HO}(h:H a=some u):Rd H a u := .inl h
theorem Rd.ok {P:Program}{w:World}{H:Hp}{h:Heap}{a:Addr}{u:HO}(r:Rd H a u)(x:HOk P w H h):ObjOk P w H h a u:=by
 rcases r with r | ⟨o,r⟩
 ·exact x a u r
 ·obtain⟨_,q⟩:=x a _ r
  exact q
def Mut:Option HO->Prop
 |some (.lst _)=>True
 |some (.dK _)=>True
 |some (.dT _)=>True
 |some (.set _ _)=>True
 |some (.ins _ _ _)=>True
 |some (.ext _)=>True
 |_=>False
section
variable {P:Program}{w:World}{H:Hp}{h h':Heap}{x e:Addr}{o':HO}
theorem HOk.write (ok:HOk P w H h)(mu:Mut (H x))(he:e=x\/H e=some (.own x))(k:∀b u,b≠e->h.get? b=some u->h'.get? b=some u)(heo:∃u,h'.get? e=some u)
  (new:ObjOk P w (upd H x o') h' x o'):HOk P w (upd H x o') h':=λb u q=>by
 have nown:∀c y,H c=some (.own y)->c≠x:=λc y r z=>by subst z;rw[r] at mu;exact mu
 have ntup:∀c xs,H c=some (.tup xs)->c≠x:=λc xs r z=>by subst z;rw[r] at mu;exact mu
 by_cases hb:b=x
 ·subst hb;rw[aG] at q;cases q;exact new
 ·rw[bC hb] at q
  by_cases hbe:b=e
  ·have q':H b=some (.own x):=by
    rcases he with z | z
    ·exact absurd (hbe.trans z) hb
    ·rw[hbe];exact z
   rw[q] at q';cases q'
   obtain⟨v,hv⟩:=heo
   exact⟨v,by rw[hbe];exact hv⟩
  ·refine(ok b u q).stay (λc v hc r=>k c v ?_ r) (λc r=>by rw[bC (nown c b r)];exact r) λc xs r=>by rw[bC (ntup c xs r)];exact r
   rcases hc with rfl | hc
   ·exact hbe
   ·rintro rfl
    rcases he with z | z
    ·exact nown c b hc z
    ·rw[hc] at z;cases z;exact hb rfl
end
structure Un (fs ex:List Addr)(H H':Hp)(h h':Heap):Prop where
 keep:∀b o,h.get? b=some o->H b=none->b∉fs->b∉ex->h'.get? b=some o
 slot:∀b o,h.get? b=some o->H b=none->b∈fs->b∉ex->∃sl,h'.get? b=some { o with slots:=sl }
 free:∀b o,h.get? b=some o->H b=none->b∉ex->H' b=none
 there:∀b o,h.get? b=some o->b∉ex->∃o',h'.get? b=some o'
 tups:∀b xs,H b=some (.tup xs)->H' b=some (.tup xs)
 frzs:∀b o u,H b=some (.frz o u)->H' b=some (.frz o u)
 tbls:∀b ps,H b=some (.tbl ps)->∃more,H' b=some (.tbl (ps++more))
section
variable {fs fs' ex ex':List Addr}{H H1 H2:Hp}{h h1 h2 h':Heap}{a x e:Addr}{o:HO}
theorem Un.any (u:Un fs ex H H1 h h1){b:Addr}{ob:Obj}(q:h.get? b=some ob)(n:H b=none)(hx:b∉ex):∃sl,h1.get? b=some { ob with slots:=sl }:=by
 by_cases hb:b∈fs
 ·exact u.slot b ob q n hb hx
 ·exact⟨ob.slots,u.keep b ob q n hb hx⟩
theorem Un.trans (a:Un fs ex H H1 h h1)(b:Un fs ex H1 H2 h1 h2):Un fs ex H H2 h h2 where
 keep:=λc ob q n hc hx=>b.keep c ob (a.keep c ob q n hc hx) (a.free c ob q n hx) hc hx
 slot:=λc ob q n hc hx=>by
  obtain⟨sl,e1⟩:=a.slot c ob q n hc hx
  obtain⟨sl',e2⟩:=b.slot c _ e1 (a.free c ob q n hx) hc hx
  exact⟨sl',e2⟩
 free:=λc ob q n hx=>by
  obtain⟨o',e1⟩:=a.there c ob q hx
  exact b.free c o' e1 (a.free c ob q n hx) hx
 there:=λc ob q hx=>by
  obtain⟨o',e1⟩:=a.there c ob q hx
  exact b.there c o' e1 hx
 tups:=λc xs q=>b.tups c xs (a.tups c xs q)
 frzs:=λc ob xs q=>b.frzs c ob xs (a.frzs c ob xs q)
 tbls:=λc ps q=>by
  obtain⟨m1,e1⟩:=a.tbls c ps q
  obtain⟨m2,e2⟩:=b.tbls c _ e1
  exact⟨m1++m2,by rw[e2,Array.append_assoc]⟩
theorem Un.kept (k:∀b u,h.get? b=some u->h'.get? b=some u):Un fs ex H H h h':=
 ⟨λb ob q _ _ _=>k b ob q,λb ob q _ _ _=>⟨ob.slots,k b ob q⟩,λ_ _ _ n _=>n,λb ob q _=>⟨ob,k b ob q⟩,λ_ _ q=>q,λ_ _ _ q=>q,λ_ ps q=>⟨#[],by rw[q];simp⟩⟩
theorem Un.refl:Un fs ex H H h h:=Un.kept λ_ _ q=>q
theorem Un.laid (k:∀b u,h.get? b=some u->h'.get? b=some u)(hp:h.objs.size<=a)(hn:H a=none):Un fs ex H (upd H a o) h h' where
 keep:=λb u q _ _ _=>k b u q
 slot:=λb u q _ _ _=>⟨u.slots,k b u q⟩
 free:=λb u q n _=>by rw[bC (c6 (aw (bj q) hp))];exact n
 there:=λb u q _=>⟨u,k b u q⟩
 tups:=λb xs q=>by rw[bC (bK q hn)];exact q
 frzs:=λb u xs q=>by rw[bC (bK q hn)];exact q
 tbls:=λb ps q=>⟨#[],by rw[bC (bK q hn),q];simp⟩
theorem Un.write (mu:Mut (H x))(he:e=x\/H e=some (.own x))(k:∀b u,b≠e->h.get? b=some u->h'.get? b=some u)(heo:∃u,h'.get? e=some u):Un fs ex H (upd H x o) h h':=by
 have hx:∀b,H b=none->b≠x:=λb n z=>by subst z;rw[n] at mu;exact mu
 have hb:∀b,H b=none->b≠e:=λb n z=>by
  subst z
  rcases he with r | r
  ·exact hx b n r
  ·rw[n] at r;cases r
 have hm:∀b u,H b=some u->¬ Mut (some u)->b≠x:=λb u q nm z=>by subst z;rw[q] at mu;exact nm mu
 refine⟨λb u q n _ _=>k b u (hb b n) q,λb u q n _ _=>⟨u.slots,k b u (hb b n) q⟩,λb u q n _=>by rw[bC (hx b n)];exact n,λb u q _=>?_,
  λb xs q=>by rw[bC (hm b _ q λz=>z)];exact q,λb u xs q=>by rw[bC (hm b _ q λz=>z)];exact q,λb ps q=>⟨#[],by rw[bC (hm b _ q λz=>z),q];simp⟩⟩
 by_cases hbe:b=e
 ·subst hbe;exact heo
 ·exact⟨u,k b u hbe q⟩
end
def trk (h:Heap) (H:Hp):List Addr:=(aq h.objs.size).filter λa=>(H a).isSome
def aEb (h:Heap) (H:Hp):Heap:=PySem.W.hideAll h (trk h H)
theorem aCs (h:Heap)(H:Hp):(aEb h H).objs.size=h.objs.size:=PySem.W.hideAll_size _ _
theorem aEt {h:Heap}{H:Hp}{b:Addr}{o:Obj}(e:h.get? b=some o)(n:H b=none):(aEb h H).get? b=some o:=
 zd _ e λhm=>by
  have q:(H b).isSome=true:=(gf.mp hm).2
  rw[n] at q;simp at q
theorem aGx {h:Heap}{H:Hp}{b:Addr}{o:Obj}(e:(aEb h H).get? b=some o):h.get? b=some o/\H b=none:=by
 have e':h.get? b=some o:=PySem.W.of_hideAll (trk h H) e
 refine⟨e',?_⟩
 cases q:H b with
 |none=>rfl
 |some x=>
  have hm:b∈trk h H:=gf.mpr ⟨da.mpr (bj e'),by simp[q]⟩
  have z:(aEb h H).get? b=none:=PySem.W.hideAll_none (trk h H) hm
  rw[z] at e;cases e
structure Mod (K:ae)(mg:Str->Option Value)(base:Heap):Prop where
 kin:K.In base
 glob:base.Ns c7 mg
 blt:∃mb,base.Ns Af mb/\∀x:Str,x≠"__name__"->mb x=e9 x
 nolimit:base.NoLimit
structure Cx where
 prog:Program
 w:World
 K:ae
 mg:Str->Option Value
 base:Heap
 A:Around
 N:List Str
 s₀:Shared
 H₀:Hp
 env:Env
 outer:List Env
 stack:List Env
 ex:List Addr
 fn:Str->Bool
 calm:Bool
 pn:List (Addr×Obj)
 xe:Value->Shared->Prop
def frs (l:List Env):List Addr:=l.filterMap (·.frame)
abbrev Cx.fs (X:Cx):List Addr:=frs X.outer
def Vis (sc:Scope) (x:Str):Prop:=sc.names.lookup x=some .local\/sc.names.lookup x=some .cell\/sc.names.lookup x=some .free
def Loc (sc:Scope) (x:Str):Prop:=sc.names.lookup x=some .local\/sc.names.lookup x=some .cell
def aLv (env:Env) (h:Heap) (m:Str->Option Value) (x:Str) (u:Value):Prop:=
 (env.kindOf x=some .local/\m x=some u)\/((env.kindOf x=some .cell\/env.kindOf x=some .free)/\∃c,env.cells.lookup x=some c/\h.IsCell c (some u))
structure Cx.Ok (X:Cx):Prop where
 mod:Mod X.K X.mg X.base
 kind:X.env.scope.kind = .function
 glob:X.env.globals=c7
 blt:X.env.builtins=Af
 above:X.s₀.heap.objs.size<=X.env.locals
 inj:∀x y c,X.env.cells.lookup x=some c->X.env.cells.lookup y=some c->x=y
 has:∀x,(X.env.kindOf x=some .cell\/X.env.kindOf x=some .free)->∃c,X.env.cells.lookup x=some c
 cab:∀x c,X.fn x=true->X.env.cells.lookup x=some c->X.s₀.heap.objs.size<=c
 hd:X.calm=true->X.A.handled=none
 frames:X.A.frames=some X.stack
 stk:X.stack=X.outer\/(X.stack=X.env :: X.outer/\X.env.frame=some X.env.locals)
 exf:∀b∈X.ex,b≠X.env.locals/\∀x c,X.env.cells.lookup x=some c->c≠b
 bs:∀b o,X.base.get? b=some o->X.s₀.heap.get? b=some o/\X.H₀ b=none
 bsz:X.base.objs.size<=X.s₀.heap.objs.size
 noex:∀b o,X.base.get? b=some o->b∉X.ex
 exfs:∀b∈X.ex,b∉X.fs
 funs:X.s₀.heap.FunFrames X.base X.outer
 frf:∀b∈X.fs,X.H₀ b=none
structure Inv (X:Cx)(pins:List (Addr×Obj))(σ:List (Option V))(H:Hp)(s:Shared):Prop where
 ok:X.Ok
 os:s.os=X.s₀.os
 bare:wa s.gens
 base:Un X.fs X.ex X.H₀ H X.s₀.heap s.heap
 loc:∃m,s.heap.Ns X.env.locals m/\∀(i:Nat) (x:Str) (v:V),X.N[i]?=some x->σ[i]?=some (some v)->Vis X.env.scope x->∃u,RelV v u/\aLv X.env s.heap m x u
 cell:∀x c,X.env.cells.lookup x=some c->∃v,s.heap.IsCell c v
 free:H X.env.locals=none
 freeC:∀x c,X.env.cells.lookup x=some c->H c=none
 pin:∀p∈X.pn++pins,s.heap.get? p.1=some p.2/\H p.1=none/\p.1≠X.env.locals/\p.1∉X.fs/\∀v,p.2.data ≠ .cell v
 hok:HOk X.prog X.w H s.heap
 len:σ.length=X.N.length
section
variable {X:Cx}{pins:List (Addr×Obj)}{σ:List (Option V)}{H H':Hp}{s:Shared}{h':Heap}
theorem Cx.Ok.nofr (ok:X.Ok){b:Addr}{o:Obj}(e:X.base.get? b=some o):b∉X.fs:=λhb=>by
 have:=(ok.funs.mem hb).1
 rw[e] at this;cases this
theorem Inv.bs (I:Inv X pins σ H s):∀b o,X.base.get? b=some o->s.heap.get? b=some o/\H b=none:=λb o e=>
 ⟨I.base.keep b o (I.ok.bs b o e).1 (I.ok.bs b o e).2 (I.ok.nofr e) (I.ok.noex b o e),I.base.free b o (I.ok.bs b o e).1 (I.ok.bs b o e).2 (I.ok.noex b o e)⟩
theorem Inv.bk (I:Inv X pins σ H s):∀b o,X.base.get? b=some o->s.heap.get? b=some o:=λb o e=>(I.bs b o e).1
theorem Inv.mod (I:Inv X pins σ H s):Mod X.K X.mg X.base:=I.ok.mod
theorem Inv.kIn (I:Inv X pins σ H s):X.K.In s.heap:=I.ok.mod.kin.keeps I.bk
theorem Inv.lt (I:Inv X pins σ H s):X.env.locals<s.heap.objs.size:=let⟨_,hn,_⟩:=I.loc;hn.lt
theorem Inv.sz (I:Inv X pins σ H s):X.s₀.heap.objs.size<=s.heap.objs.size:=c9 I.ok.above (ig I.lt)
theorem Inv.nofs (I:Inv X pins σ H s){a:Addr}(h:s.heap.objs.size<=a):a∉X.fs:=λhb=>by
 obtain⟨_,o,ho,_⟩:=I.ok.funs.mem hb
 exact absurd (aw (bj ho) (c9 I.sz h)) (kx _)
theorem Inv.cne (I:Inv X pins σ H s):∀x c,X.env.cells.lookup x=some c->c≠X.env.locals:=λx c e z=>by
 obtain⟨v,o,ho,hd⟩:=I.cell x c e
 obtain⟨m,⟨o',es,ep,ho',hd',_⟩,_⟩:=I.loc
 rw[z,ho'] at ho;cases ho;rw[hd'] at hd;cases hd
theorem Inv.funs (I:Inv X pins σ H s):s.heap.FunFrames X.base X.outer:=by
 have all:∀(l:List Env),(∀b∈frs l,b∈X.fs)->X.s₀.heap.FunFrames X.base l->s.heap.FunFrames X.base l:=by
  intro l
  induction l with
  |nil=>intro _ _;trivial
  |cons env r ih=>
   intro hs hl
   obtain⟨hk,⟨L,o,hf,hn,ho,hd⟩,hr⟩:=hl
   have hL:L∈X.fs:=hs L (by unfold frs;rw[tq,hf];exact bp)
   obtain⟨sl,e⟩:=I.base.slot L o ho (I.ok.frf L hL) hL λz=>I.ok.exfs L z hL
   exact⟨hk,⟨L,_,hf,hn,e,hd⟩,ih (λb hb=>hs b (by unfold frs;rw[tq,hf];exact bf _ hb)) hr⟩
 exact all X.outer (λ_ hb=>hb) I.ok.funs
theorem Inv.stack (I:Inv X pins σ H s):s.heap.FunFrames X.base X.stack:=by
 rcases I.ok.stk with e | ⟨e,hf⟩
 ·rw[e];exact I.funs
 ·rw[e]
  obtain⟨m,hn,_⟩:=I.loc
  refine .cons (by rw[I.ok.kind];decide) hf hn ?_ I.funs
  exact Heap.get?_none_of_le (c9 I.ok.bsz I.ok.above)
theorem Inv.stkSub (I:Inv X pins σ H s):∀b∈frs X.stack,b∈X.env.locals :: X.fs:=λb hb=>by
 rcases I.ok.stk with e | ⟨e,hf⟩
 ·rw[e] at hb;exact bf _ hb
 ·rw[e] at hb
  unfold frs at hb
  rw[tq,hf] at hb
  exact hb
theorem Inv.stkFree (I:Inv X pins σ H s):∀b∈frs X.stack,H b=none:=λb hb=>by
 rcases cm.mp (I.stkSub b hb) with e | hb
 ·rw[e];exact I.free
 ·obtain⟨_,o,ho,_⟩:=I.ok.funs.mem hb
  exact I.base.free b o ho (I.ok.frf b hb) λz=>I.ok.exfs b z hb
theorem Inv.step {g':Array GenState}{t':Nat}{d':Drawn}{ch:List Addr}(I:Inv X pins σ H s)
  (hch:∀b∈ch,(b∈X.ex\/X.s₀.heap.objs.size<=b)/\b≠X.env.locals/\(∀x c,X.env.cells.lookup x=some c->c≠b)/\∀p∈X.pn++pins,p.1≠b)
  (keep:∀b o,b≠X.env.locals->b∉X.fs->b∉ch->s.heap.get? b=some o->H b=none->h'.get? b=some o)
  (slot:∀b o,b≠X.env.locals->b∈X.fs->b∉ch->s.heap.get? b=some o->H b=none->∃sl,h'.get? b=some { o with slots:=sl }) (free:∀b o,b∉ch->s.heap.get? b=some o->H b=none->H' b=none)
  (there:∀b o,b∉ch->s.heap.get? b=some o->∃o',h'.get? b=some o')
  (tups:∀b xs,H b=some (.tup xs)->H' b=some (.tup xs)) (frzs:∀b o u,H b=some (.frz o u)->H' b=some (.frz o u)) (tbls:∀b ps,H b=some (.tbl ps)->∃more,H' b=some (.tbl (ps++more)))
  (ns:∀m,s.heap.Ns X.env.locals m->h'.Ns X.env.locals m) (hok:HOk X.prog X.w H' h') (hg:wa g') :
  Inv X pins σ H' { s with heap:=h',gens:=g',drawn:=d',toks:=t' }:=by
 have neL:∀b o,X.s₀.heap.get? b=some o->b≠X.env.locals:=λb o e=>c6 (aw (bj e) I.ok.above)
 have neC:∀b o,X.s₀.heap.get? b=some o->b∉X.ex->b∉ch:=λb o e hx hb=>by
  rcases(hch b hb).1 with z | z
  ·exact hx z
  ·exact absurd (aw (bj e) z) (kx _)
 have cellK:∀x c,X.env.cells.lookup x=some c->∀v,s.heap.IsCell c v->h'.IsCell c v:=λx c e v ⟨o,ho,hd⟩=>by
  have nch:c∉ch:=λz=>(hch c z).2.2.1 x c e rfl
  by_cases hc:c∈X.fs
  ·obtain⟨sl,q⟩:=slot c o (I.cne x c e) hc nch ho (I.freeC x c e)
   exact⟨_,q,hd⟩
  ·exact⟨o,keep c o (I.cne x c e) hc nch ho (I.freeC x c e),hd⟩
 refine⟨I.ok,I.os,hg,⟨λb o e n hb hx=>?_,λb o e n hb hx=>?_,λb o e n hx=>?_,λb o e hx=>?_,λb xs e=>tups b xs (I.base.tups b xs e),λb o xs e=>frzs b o xs (I.base.frzs b o xs e),λb ps e=>?_⟩,?_,λx c e=>?_,?_,λx c e=>?_,λp hp=>?_,hok,I.len⟩
 ·exact keep b o (neL b o e) hb (neC b o e hx) (I.base.keep b o e n hb hx) (I.base.free b o e n hx)
 ·obtain⟨sl,e1⟩:=I.base.slot b o e n hb hx
  obtain⟨sl',e2⟩:=slot b _ (neL b o e) hb (neC b o e hx) e1 (I.base.free b o e n hx)
  exact⟨sl',e2⟩
 ·obtain⟨o',e1⟩:=I.base.there b o e hx
  exact free b o' (neC b o e hx) e1 (I.base.free b o e n hx)
 ·obtain⟨o',e1⟩:=I.base.there b o e hx
  exact there b o' (neC b o e hx) e1
 ·obtain⟨m1,e1⟩:=I.base.tbls b ps e
  obtain⟨m2,e2⟩:=tbls b _ e1
  exact⟨m1++m2,by rw[e2,Array.append_assoc]⟩
 ·obtain⟨m,hn,hl⟩:=I.loc
  refine⟨m,ns m hn,λi x v e1 e2 e3=>?_⟩
  obtain⟨u,r,l⟩:=hl i x v e1 e2 e3
  refine⟨u,r,?_⟩
  rcases l with l | ⟨k,c,e,z⟩
  ·exact .inl l
  ·exact .inr ⟨k,c,e,cellK x c e _ z⟩
 ·obtain⟨v,z⟩:=I.cell x c e
  exact⟨v,cellK x c e v z⟩
 ·obtain⟨m,⟨o,_,_,ho,_⟩,_⟩:=I.loc
  exact free _ o (λz=>(hch _ z).2.1 rfl) ho I.free
 ·obtain⟨v,o,ho,hd⟩:=I.cell x c e
  exact free c o (λz=>(hch c z).2.2.1 x c e rfl) ho (I.freeC x c e)
 ·obtain⟨e,n,ne,nf,d⟩:=I.pin p hp
  have nch:p.1∉ch:=λz=>(hch p.1 z).2.2.2 p hp rfl
  exact⟨keep p.1 p.2 ne nf nch e n,free p.1 p.2 nch e n,ne,nf,d⟩
theorem Inv.un {t':Nat}(I:Inv X pins σ H s)(u:Un X.fs [] H H' s.heap h')(hok:HOk X.prog X.w H' h'):Inv X pins σ H' { s with heap:=h',toks:=t' }:=by
 obtain⟨m,⟨o,es,ep,ho,r⟩,_⟩:=id I.loc
 obtain⟨sl,hL⟩:=u.any ho I.free (by simp)
 exact I.step (g':=s.gens) (d':=s.drawn) (ch:=[]) (λ_ z=>nomatch z) (λb o _ hb _ e n=>u.keep b o e n hb (by simp)) (λb o _ hb _ e n=>u.slot b o e n hb (by simp)) (λb o _ e n=>u.free b o e n (by simp)) (λb o _ e=>u.there b o e (by simp)) u.tups u.frzs u.tbls (λm' hm=>by
  obtain⟨o',es',ep',ho',r'⟩:=hm
  rw[ho] at ho';cases ho'
  exact⟨_,es',ep',hL,r'⟩) hok I.bare
theorem Inv.call {g':Array GenState}{t':Nat}{d':Drawn}{ch:List Addr}(I:Inv X pins σ H s)(u:Un (frs X.stack) ch H H' s.heap h')(hok:HOk X.prog X.w H' h')(hg:wa g')
  (hch:∀b∈ch,(b∈X.ex\/X.s₀.heap.objs.size<=b)/\b≠X.env.locals/\(∀x c,X.env.cells.lookup x=some c->c≠b)/\∀p∈X.pn++pins,p.1≠b) :
  Inv X pins σ H' { s with heap:=h',gens:=g',drawn:=d',toks:=t' }:=by
 obtain⟨m,⟨o,es,ep,ho,r⟩,_⟩:=id I.loc
 obtain⟨sl,hL⟩:=u.any ho I.free λz=>(hch _ z).2.1 rfl
 exact I.step (ch:=ch) hch (λb o hL hb hc e n=>u.keep b o e n (λz=>(cm.mp (I.stkSub b z)).elim hL hb) hc) (λb o _ _ hc e n=>u.any e n hc) (λb o hc e n=>u.free b o e n hc) (λb o hc e=>u.there b o e hc) u.tups u.frzs u.tbls (λm' hm=>by
  obtain⟨o',es',ep',ho',r'⟩:=hm
  rw[ho] at ho';cases ho'
  exact⟨_,es',ep',hL,r'⟩) hok hg
theorem Inv.turned {t':Nat}{it:Addr}(I:Inv X pins σ H s)(k:∀b o,b≠it->s.heap.get? b=some o->h'.get? b=some o)(hn:H it=none)(hL:it≠X.env.locals)
  (h1:it∈X.ex\/X.s₀.heap.objs.size<=it) (h2:∀x c,X.env.cells.lookup x=some c->c≠it) (h3:∀p∈X.pn++pins,p.1≠it):Inv X pins σ H { s with heap:=h',toks:=t' }:=by
 have nit:∀b u,H b=some u->b≠it:=λb u e z=>by rw[z,hn] at e;cases e
 refine I.step (g':=s.gens) (d':=s.drawn) (ch:=[it]) (λb hb=>?_) (λb o _ _ hc e _=>k b o (λz=>hc (by simp[z])) e) (λb o _ _ hc e _=>⟨o.slots,k b o (λz=>hc (by simp[z])) e⟩) (λ_ _ _ _ n=>n)
  (λb o hc e=>⟨o,k b o (λz=>hc (by simp[z])) e⟩) (λ_ _ e=>e) (λ_ _ _ e=>e) (λb ps e=>⟨#[],by rw[e];simp⟩) (λm hm=>?_) (λb u e=>?_) I.bare
 ·have e:b=it:=by simpa using hb
  subst e
  exact⟨h1,hL,h2,h3⟩
 ·obtain⟨o,es,ep,ho,r⟩:=hm
  exact⟨o,es,ep,k _ o (iw hL) ho,r⟩
 ·refine(I.hok b u e).stay (λc v hc q=>k c v ?_ q) (λ_ q=>q) λ_ _ q=>q
  rcases hc with z | z
  ·rw[z];exact nit b u e
  ·exact nit c _ z
theorem Inv.tok (I:Inv X pins σ H s)(t:Nat):Inv X pins σ H { s with toks:=t }:=I.un (h':=s.heap) (t':=t) Un.refl I.hok
theorem Inv.kept {t':Nat}(I:Inv X pins σ H s)(k:∀b u,s.heap.get? b=some u->h'.get? b=some u):Inv X pins σ H { s with heap:=h',toks:=t' }:=I.un (Un.kept k) (I.hok.kept k)
theorem Inv.laid {a:Addr}{o:HO}{t':Nat}(I:Inv X pins σ H s)(k:∀b u,s.heap.get? b=some u->h'.get? b=some u)(hp:s.heap.objs.size<=a)(new:ObjOk X.prog X.w (upd H a o) h' a o) :
  Inv X pins σ (upd H a o) { s with heap:=h',toks:=t' }:=I.un (Un.laid k hp (I.hok.fresh hp)) (I.hok.laid k hp new)
theorem Inv.write {x e:Addr}{o:HO}{t':Nat}(I:Inv X pins σ H s)(mu:Mut (H x))(he:e=x\/H e=some (.own x))(k:∀b u,b≠e->s.heap.get? b=some u->h'.get? b=some u)(heo:∃u,h'.get? e=some u)
  (new:ObjOk X.prog X.w (upd H x o) h' x o):Inv X pins σ (upd H x o) { s with heap:=h',toks:=t' }:=I.un (Un.write mu he k heo) (I.hok.write mu he k heo new)
theorem Inv.pins_of {pins':List (Addr×Obj)}(I:Inv X pins σ H s)(h:∀p∈pins',s.heap.get? p.1=some p.2/\H p.1=none/\p.1≠X.env.locals/\p.1∉X.fs/\∀v,p.2.data ≠ .cell v):Inv X pins' σ H s:=
 ⟨I.ok,I.os,I.bare,I.base,I.loc,I.cell,I.free,I.freeC,λp hp=>(du.mp hp).elim (λz=>I.pin p (j7 _ z)) (h p),I.hok,I.len⟩
theorem zW {N:List Str}(hN:N.Nodup){i j:Nat}{x:Str}(a:N[i]?=some x)(b:N[j]?=some x):i=j:=by
 obtain⟨h1,e1⟩:=ai.mp a
 obtain⟨h2,e2⟩:=ai.mp b
 exact(ou hN).mp (e1.trans e2.symm)
theorem wB {M:Model}{A:Around}{E:Value->Shared->Prop}{i:Nat}{x:Str}{v:V}{u:Value}{Q:Unit->Shared->Prop}(I:Inv X pins σ H s)(hN:X.N.Nodup)(hi:X.N[i]?=some x)(hx:Loc X.env.scope x)(r:RelV v u)
  (h:∀s',Inv X pins (σ.set i (some v)) H s'->(∃a,fg a s.heap s'.heap/\(a=X.env.locals\/X.env.cells.lookup x=some a))->Q () s') (hf:X.fn x=true\/X.env.scope.names.lookup x=some .local:=by first | exact .inl rfl | exact .inr rfl | assumption):wpAny M A (storeName X.env x u) Q E s:=by
 obtain⟨m,hn,hl⟩:=id I.loc
 have hcls:(X.env.scope.kind == .class || (X.env.scope.kind == .module && X.env.locals != X.env.globals))=false:=by rw[I.ok.kind];rfl
 have hiσ:i<σ.length:=by rw[I.len];exact(ai.mp hi).1
 have cne:=I.cne
 have tracked:∀{a:Addr}{h':Heap},(∃o,s.heap.get? a=some o/\H a=none)->fg a s.heap h'->HOk X.prog X.w H h':=λ{a h'} ha hs b ob e=>by
  obtain⟨_,_,hfree⟩:=ha
  refine(I.hok b ob e).stay (λc w' hc q=>(hs.2 c ?_).trans q) (λ_ q=>q) λ_ _ q=>q
  rintro rfl
  rcases hc with rfl | hc
  ·rw[hfree] at e;cases e
  ·rw[hfree] at hc;cases hc
 rcases hx with hk | hk
 ·refine wpAny_storeName_local hk hn (λh' hn' hs=>?_) hcls
  obtain⟨oL,_,_,hoL,_⟩:=id hn
  refine h _ ⟨I.ok,I.os,I.bare,⟨λb o e n hb hx=>?_,λb o e n hb hx=>?_,I.base.free,λb o e hx=>?_,I.base.tups,I.base.frzs,I.base.tbls⟩,⟨_,hn',λj y v' e1 e2 e3=>?_⟩,λy c e=>?_,I.free,I.freeC,λp hp=>?_,tracked ⟨oL,hoL,I.free⟩ hs,by simpa using I.len⟩ ⟨_,hs, .inl rfl⟩
  ·exact(hs.2 b (c6 (aw (bj e) I.ok.above))).trans (I.base.keep b o e n hb hx)
  ·obtain⟨sl,e1⟩:=I.base.slot b o e n hb hx
   exact⟨sl,(hs.2 b (c6 (aw (bj e) I.ok.above))).trans e1⟩
  ·obtain⟨o',e1⟩:=I.base.there b o e hx
   exact⟨o',(hs.2 b (c6 (aw (bj e) I.ok.above))).trans e1⟩
  ·by_cases hj:j=i
   ·subst hj
    rw[hi] at e1;cases e1
    rw[jr hiσ] at e2
    cases e2
    exact⟨u,r, .inl ⟨hk,by simp⟩⟩
   ·rw[dv (iw hj)] at e2
    obtain⟨u',r',q⟩:=hl j y v' e1 e2 e3
    refine⟨u',r',?_⟩
    rcases q with⟨k,e⟩ | ⟨k,c,e,z⟩
    ·refine .inl ⟨k,?_⟩
     have:y≠x:=λe=>hj (zW hN e1 (e ▸ hi))
     simp[this,e]
    ·exact .inr ⟨k,c,e,z.sameBut hs (cne y c e)⟩
  ·obtain⟨w',z⟩:=I.cell y c e
   exact⟨w',z.sameBut hs (cne y c e)⟩
  ·obtain⟨e,n,ne,nf,d⟩:=I.pin p hp
   exact⟨(hs.2 p.1 ne).trans e,n,ne,nf,d⟩
 ·have hfn:X.fn x=true:=by
   rcases hf with z | z
   ·exact z
   ·rw[z] at hk;cases hk
  obtain⟨c,hc⟩:=I.ok.has x (.inl hk)
  obtain⟨w',z⟩:=I.cell x c hc
  refine wpAny_storeName_cell I.ok.kind hk hc z (λh' hc' hs=>?_)
  obtain⟨oc,hoc,hocd⟩:=id z
  refine h { s with heap:=h' } ⟨I.ok,I.os,I.bare,⟨λb o e n hb hx=>?_,λb o e n hb hx=>?_,I.base.free,λb o e hx=>?_,I.base.tups,I.base.frzs,I.base.tbls⟩,⟨m,hn.sameBut hs (iw (cne x c hc)),λj y v' e1 e2 e3=>?_⟩,λy c' e=>?_,I.free,I.freeC,λp hp=>?_,tracked ⟨oc,hoc,I.freeC x c hc⟩ hs,by simpa using I.len⟩ ⟨c,hs, .inr hc⟩
  ·exact(hs.2 b (c6 (aw (bj e) (I.ok.cab x c hfn hc)))).trans (I.base.keep b o e n hb hx)
  ·obtain⟨sl,e1⟩:=I.base.slot b o e n hb hx
   exact⟨sl,(hs.2 b (c6 (aw (bj e) (I.ok.cab x c hfn hc)))).trans e1⟩
  ·obtain⟨o',e1⟩:=I.base.there b o e hx
   exact⟨o',(hs.2 b (c6 (aw (bj e) (I.ok.cab x c hfn hc)))).trans e1⟩
  ·by_cases hj:j=i
   ·subst hj
    rw[hi] at e1;cases e1
    rw[jr hiσ] at e2
    cases e2
    exact⟨u,r, .inr ⟨.inl hk,c,hc,hc'⟩⟩
   ·rw[dv (iw hj)] at e2
    obtain⟨u',r',q⟩:=hl j y v' e1 e2 e3
    refine⟨u',r',?_⟩
    rcases q with q | ⟨k,c',e,z'⟩
    ·exact .inl q
    ·refine .inr ⟨k,c',e,z'.sameBut hs ?_⟩
     rintro rfl
     exact hj (zW hN e1 (I.ok.inj _ _ _ e hc ▸ hi))
  ·by_cases hcc:c'=c
   ·subst hcc;exact⟨_,hc'⟩
   ·obtain⟨w2,z2⟩:=I.cell y c' e
    exact⟨w2,z2.sameBut hs hcc⟩
  ·obtain⟨e,n,ne,nf,d⟩:=I.pin p hp
   refine⟨(hs.2 p.1 ?_).trans e,n,ne,nf,d⟩
   intro q
   rw[q,hoc] at e
   have q':oc=p.2:=az e
   exact d w' (by rw[<- q'];exact hocd)
theorem nO {M:Model}{A:Around}{E:Value->Shared->Prop}{i:Nat}{x:Str}{v:V}{u:Value}{Q:Unit->Shared->Prop}(I:Inv X pins σ H s)(hN:X.N.Nodup)(hi:X.N[i]?=some x)(hx:Loc X.env.scope x)(r:RelV v u)
  (h:∀s',Inv X pins (σ.set i (some v)) H s'->Q () s') (hf:X.fn x=true\/X.env.scope.names.lookup x=some .local:=by first | exact .inl rfl | exact .inr rfl | assumption):wpAny M A (storeName X.env x u) Q E s:=
 wB I hN hi hx r (λs' I' _=>h s' I') hf
theorem Inv.call' {s':Shared}{ch:List Addr}(I:Inv X pins σ H s)(ho:s'.os=s.os)(u:Un (frs X.stack) ch H H' s.heap s'.heap)(hok:HOk X.prog X.w H' s'.heap)(hg:wa s'.gens)
  (hch:∀b∈ch,(b∈X.ex\/X.s₀.heap.objs.size<=b)/\b≠X.env.locals/\(∀x c,X.env.cells.lookup x=some c->c≠b)/\∀p∈X.pn++pins,p.1≠b):Inv X pins σ H' s':=by
 obtain⟨h',g',d',t',o'⟩:=s'
 have e:o'=s.os:=ho
 subst e
 exact I.call (g':=g') (t':=t') (d':=d') u hok hg hch
end
abbrev XK:=Value->Option Addr->Hp->Prop
abbrev St:=List (Option V)
abbrev VK:=V->Hp->Prop
abbrev TE:=St->Hp->VK->Prop
abbrev TT:=St->Hp->(Bool->Hp->Prop)->Prop
abbrev TA:=St->Hp->(List V->Hp->Prop)->Prop
structure mB where
 nx:St->Hp->Prop
 rt:VK
 bk:St->Hp->Prop:=λ_ _=>False
 ct:St->Hp->Prop:=λ_ _=>False
abbrev TS:=mB->St->Hp->Prop
def EP (X:Cx) (pins:List (Addr×Obj)) (σ:St) (Q:VK) (u:Value) (s':Shared):Prop:=∃v H',Inv X pins σ H' s'/\RelV v u/\Q v H'
def TP (X:Cx) (pins:List (Addr×Obj)) (σ:St) (Q:Bool->Hp->Prop) (b:Bool) (s':Shared):Prop:=∃H',Inv X pins σ H' s'/\Q b H'
def AP (X:Cx) (pins:List (Addr×Obj)) (σ:St) (Q:List V->Hp->Prop) (us:List Value) (s':Shared):Prop:=∃vs H',Inv X pins σ H' s'/\Vals vs us/\Q vs H'
def SP (X:Cx) (pins:List (Addr×Obj)) (D:mB) (f:Flow) (s':Shared):Prop:=
 match f with
 | .next=>∃σ' H',Inv X pins σ' H' s'/\D.nx σ' H'
 | .brk=>∃σ' H',Inv X pins σ' H' s'/\D.bk σ' H'
 | .cont=>∃σ' H',Inv X pins σ' H' s'/\D.ct σ' H'
 | .ret u=>∃v σ' H',Inv X pins σ' H' s'/\RelV v u/\D.rt v H'
def PE (X:Cx) (e:Expr) (t:TE):Prop:=
 ∀(pins:List (Addr×Obj)) (s:Shared) (σ:St) (H:Hp) (Q:VK),Inv X pins σ H s->t σ H Q->wpAny (model X.prog X.w) X.A (eval e X.env) (EP X pins σ Q) X.xe s
def PT (X:Cx) (e:Expr) (t:TT):Prop:=
 ∀(pins:List (Addr×Obj)) (s:Shared) (σ:St) (H:Hp) (Q:Bool->Hp->Prop),Inv X pins σ H s->t σ H Q->wpAny (model X.prog X.w) X.A (isTrue e X.env (eval e X.env)) (TP X pins σ Q) X.xe s
def PW (X:Cx) (e:Expr) (t:TT):Prop:=
 ∀(whole:Sem Value) (pins:List (Addr×Obj)) (s:Shared) (σ:St) (H:Hp) (Q:Bool->Hp->Prop),Inv X pins σ H s->t σ H Q->wpAny (model X.prog X.w) X.A (isTrue e X.env whole) (TP X pins σ Q) X.xe s
theorem PW.pt {X:Cx}{e:Expr}{t:TT}(h:PW X e t):PT X e t:=h _
def PA (X:Cx) (es:List Expr) (t:TA):Prop:=
 ∀(pos:Pos) (pins:List (Addr×Obj)) (s:Shared) (σ:St) (H:Hp) (Q:List V->Hp->Prop),Inv X pins σ H s->t σ H Q->wpAny (model X.prog X.w) X.A (spliced (vo pos (fi es X.env))) (AP X pins σ Q) X.xe s
def PS (X:Cx) (st:Stmt) (t:TS):Prop:=
 ∀(pins:List (Addr×Obj)) (s:Shared) (σ:St) (H:Hp) (D:mB),Inv X pins σ H s->t D σ H->wpAny (model X.prog X.w) X.A (exec st X.env) (SP X pins D) X.xe s
def PSs (X:Cx) (st:List Stmt) (t:TS):Prop:=
 ∀(pins:List (Addr×Obj)) (s:Shared) (σ:St) (H:Hp) (D:mB),Inv X pins σ H s->t D σ H->wpAny (model X.prog X.w) X.A (execs st X.env) (SP X pins D) X.xe s
theorem thn {α:Type}{t:Sem α}{Q Q':α->Shared->Prop}{M:Model}{A:Around}{E:Value->Shared->Prop}{s:Shared}(h:wpAny M A t Q E s)(hQ:∀a s,Q a s->Q' a s):wpAny M A t Q' E s:=jl h hQ λ_ _ x=>x
section
variable {X:Cx}
inductive aIW (i:Nat) (σ:St) (H:Hp) (Q:VK):Prop
 |mk (v:V) (h:σ[i]?=some (some v)) (q:Q v H):aIW i σ H Q
def aD (i:Nat):TE:=λσ H Q=>aIW i σ H Q
def tC (v:V):TE:=λ_ H Q=>Q v H
theorem aIq {i:Nat}{x:Str}{pos:Pos}(hN:X.N[i]?=some x)(hv:Vis X.env.scope x)(hd:(x == ("__debug__" : Str))=false:=by decide)(hcd:(x == ("__classdict__" : Str))=false:=by decide):PE X (.Name x pos) (aD i):=by
 intro pins s σ H Q I h
 obtain⟨v,e,h⟩:=h
 obtain⟨m,hn,hl⟩:=I.loc
 obtain⟨u,r,l⟩:=hl i x v hN e hv
 have fin:EP X pins σ Q u s:=⟨v,H,I,r,h⟩
 rcases l with⟨hk,hm⟩ | ⟨hk,c,hc,hcell⟩
 ·exact wpAny_Name (wpAny_loadName_local I.ok.kind hk hn hm fin) hd
 ·rcases hk with hk | hk
  ·exact wpAny_Name (wpAny_loadName_cell I.ok.kind hk hc hcell fin) hd
  ·exact wpAny_Name (wpAny_loadName_free I.ok.kind hk hc hcell fin hcd) hd
theorem aH {i j pos}:PE X (.Constant (.int i) j pos) (tC (.int i)):=λ_ _ _ H _ I h=>wpAny_Constant_int ⟨.int i,H,I.tok _,⟨_,rfl⟩,h⟩
theorem dE {b j pos}:PE X (.Constant (.bool b) j pos) (tC (.bl b)):=λ_ _ _ H _ I h=>Constant_bool ⟨.bl b,H,I,rfl,h⟩
theorem aAq {j pos}:PE X (.Constant .none j pos) (tC .non):=λ_ _ _ H _ I h=>Constant_none ⟨.non,H,I,rfl,h⟩
def Gl (X:Cx) (x:Str):Prop:=X.env.kindOf x=some .globalImplicit
theorem xY {E:Value->Shared->Prop}{pins:List (Addr×Obj)}{s:Shared}{σ:St}{H:Hp}{x:Str}{u:Value}{pos:Pos}{Q:Value->Shared->Prop}(I:Inv X pins σ H s)(hg:Gl X x)(hm:X.mg x=some u)(h:Q u s)
  (hd:(x == ("__debug__" : Str))=false:=by decide):wpAny (model X.prog X.w) X.A (eval (.Name x pos) X.env) Q E s:=
 um I.ok.kind hg (Calls.loadGlobal_global (by rw[I.ok.glob];exact I.mod.glob.keeps I.bk) hm h) hd
theorem oH {E:Value->Shared->Prop}{pins:List (Addr×Obj)}{s:Shared}{σ:St}{H:Hp}{x:Str}{u:Value}{pos:Pos}{Q:Value->Shared->Prop}(I:Inv X pins σ H s)(hg:Gl X x)(hm:X.mg x=none)(hv:e9 x=some u)(h:Q u s)
  (hn:x≠"__name__":=by decide) (hd:(x == ("__debug__" : Str))=false:=by decide):wpAny (model X.prog X.w) X.A (eval (.Name x pos) X.env) Q E s:=by
 obtain⟨mb,h1,h2⟩:=I.mod.blt
 exact um I.ok.kind hg (Calls.loadGlobal_builtin (by rw[I.ok.glob];exact I.mod.glob.keeps I.bk) hm (by rw[I.ok.blt];exact h1.keeps I.bk) ((h2 x hn).trans hv) h) hd
theorem oZ {x:Str}{v:V}{u:Value}{pos:Pos}(hg:Gl X x)(hm:X.mg x=some u)(r:RelV v u)(hd:(x == ("__debug__" : Str))=false:=by decide):PE X (.Name x pos) (tC v):=
 λ_ _ _ H _ I h=>xY I hg hm ⟨v,H,I,r,h⟩ hd
theorem eC {x:Str}{v:V}{u:Value}{pos:Pos}(hg:Gl X x)(hm:X.mg x=none)(hv:e9 x=some u)(r:RelV v u)(hn:x≠"__name__":=by decide)(hd:(x == ("__debug__" : Str))=false:=by decide):PE X (.Name x pos) (tC v):=
 λ_ _ _ H _ I h=>oH I hg hm hv ⟨v,H,I,r,h⟩ hn hd
variable {a b:Expr}{ta tb:TE}{pos:Pos}
def tB (t:TE):TT:=λσ H Q=>t σ H λx H1=>∃c,x = .bl c/\Q c H1
theorem bS {e:Expr}{t:TE}(h:PE X e t)(he:∀whole,isTrue e X.env whole=(do let v <- whole;AJ e.pos;Ag [v] (truthy v)):=by intro _;rfl):PT X e (tB t):=by
 intro pins s σ H Q I hw
 refine isTrue_plain (thn (h pins s σ H _ I hw) λv s1 ⟨x,H1,I1,r1,q1⟩=>?_) (he _)
 obtain⟨d,rfl,q⟩:=q1
 cases r1
 exact gm ⟨H1,I1,q⟩
variable {tA tB':TT}{rest:List Expr}
def aFo (t u:TT):TT:=λσ H Q=>t σ H λc H1=>if c=true then u σ H1 Q else Q false H1
def tOr (t u:TT):TT:=λσ H Q=>t σ H λc H1=>if c=true then Q true H1 else u σ H1 Q
def iP (t:TT):TT:=λσ H Q=>t σ H λc H1=>Q (!c) H1
theorem lX (ha:PT X a tA):PW X (.BoolOp .And [a] pos) tA:=by
 intro wh pins s σ H Q I h
 refine isTrue_and (thn (ha pins s σ H Q I h) λc s1 e=>?_)
 cases c with
 |true=>exact isTrue_and_nil e
 |false=>exact e
theorem dH (ha:PT X a tA):PW X (.BoolOp .Or [a] pos) tA:=by
 intro wh pins s σ H Q I h
 refine isTrue_or (thn (ha pins s σ H Q I h) λc s1 e=>?_)
 cases c with
 |false=>exact isTrue_or_nil e
 |true=>exact e
theorem sH (ha:PT X a tA)(hb:PW X (.BoolOp .And (b :: rest) pos) tB'):PW X (.BoolOp .And (a :: b :: rest) pos) (aFo tA tB'):=by
 intro wh pins s σ H Q I h
 refine isTrue_and (thn (ha pins s σ H _ I h) λc s1 ⟨H1,I1,q1⟩=>?_)
 cases c with
 |true=>exact hb wh pins s1 σ H1 Q I1 q1
 |false=>exact⟨H1,I1,q1⟩
theorem eY (ha:PT X a tA)(hb:PW X (.BoolOp .Or (b :: rest) pos) tB'):PW X (.BoolOp .Or (a :: b :: rest) pos) (tOr tA tB'):=by
 intro wh pins s σ H Q I h
 refine isTrue_or (thn (ha pins s σ H _ I h) λc s1 ⟨H1,I1,q1⟩=>?_)
 cases c with
 |true=>exact⟨H1,I1,q1⟩
 |false=>exact hb wh pins s1 σ H1 Q I1 q1
theorem cF (ha:PT X a tA):PT X (.UnaryOp .Not a pos) (iP tA):=by
 intro pins s σ H Q I h
 exact isTrue_not (ha pins s σ H (λc H1=>Q (!c) H1) I h)
def sS (ta tb:TE):TE:=λσ H Q=>ta σ H λx H1=>∃c,x = .bl c/\if c=true then tb σ H1 Q else Q (.bl false) H1
def aKh (ta tb:TE):TE:=λσ H Q=>ta σ H λx H1=>∃c,x = .bl c/\if c=true then Q (.bl true) H1 else tb σ H1 Q
def aGz (ta:TE):TE:=λσ H Q=>ta σ H λx H1=>∃c,x = .bl c/\Q (.bl (!c)) H1
theorem kK {op}{t:TE}(h:PE X a t):PE X (.BoolOp op [a] pos) t:=λpins s σ H Q I hw=>BoolOp_one (h pins s σ H Q I hw)
theorem mI (ha:PE X a ta)(hb:PE X (.BoolOp .And (b :: rest) pos) tb):PE X (.BoolOp .And (a :: b :: rest) pos) (sS ta tb):=by
 intro pins s σ H Q I h
 refine BoolOp_and (thn (ha pins s σ H _ I h) λv s1 ⟨x,H1,I1,r1,q1⟩=>?_)
 obtain⟨c,rfl,q1⟩:=q1
 cases r1
 refine gm ?_
 cases c with
 |true=>exact hb pins s1 σ H1 Q I1 q1
 |false=>exact⟨.bl false,H1,I1,rfl,q1⟩
theorem aIF (ha:PE X a ta)(hb:PE X (.BoolOp .Or (b :: rest) pos) tb):PE X (.BoolOp .Or (a :: b :: rest) pos) (aKh ta tb):=by
 intro pins s σ H Q I h
 refine BoolOp_or (thn (ha pins s σ H _ I h) λv s1 ⟨x,H1,I1,r1,q1⟩=>?_)
 obtain⟨c,rfl,q1⟩:=q1
 cases r1
 refine gm ?_
 cases c with
 |false=>exact hb pins s1 σ H1 Q I1 q1
 |true=>exact⟨.bl true,H1,I1,rfl,q1⟩
theorem aEX (ha:PE X a ta):PE X (.UnaryOp .Not a pos) (aGz ta):=by
 intro pins s σ H Q I h
 refine UnaryOp_ (thn (ha pins s σ H _ I h) λv s1 ⟨x,H1,I1,r1,q1⟩=>?_)
 obtain⟨c,rfl,q1⟩:=q1
 cases r1
 exact not_of (gm ⟨.bl (!c),H1,I1,rfl,q1⟩)
def tIf (t:TT) (ta tb:TE):TE:=λσ H Q=>t σ H λc H1=>if c=true then ta σ H1 Q else tb σ H1 Q
theorem aAx {c:Expr}(hc:PT X c tA)(ha:PE X a ta)(hb:PE X b tb):PE X (.IfExp c a b pos) (tIf tA ta tb):=by
 intro pins s σ H Q I h
 refine wpAny_IfExp (thn (hc pins s σ H _ I h) λd s1 ⟨H1,I1,q1⟩=>?_)
 cases d with
 |true=>exact ha pins s1 σ H1 Q I1 q1
 |false=>exact hb pins s1 σ H1 Q I1 q1
end
def SqL (K:ae) (H:Hp) (a:Addr) (xs:List V):Prop:=
 Rd H a (.lst xs) \/
  ∃(o:Obj) (its:Array Value) (n:Nat),K.lookup a=some o/\o.cls = .type "list"/\o.dict=none/\o.data = .seq its n/\its.size<=bx/\Vals xs its.toList
def SqT (K:ae) (H:Hp) (a:Addr) (xs:List V):Prop:=
 Rd H a (.tup xs) \/
  ∃(o:Obj) (its:Array Value) (n:Nat),K.lookup a=some o/\o.cls = .type "tuple"/\o.dict=none/\o.data = .seq its n/\its.size<=bx/\Vals xs its.toList
def aLH:Value->Option V
 | .none=>some .non
 | .bool b=>some (.bl b)
 | .int i _=>some (.int i)
 | .str x _=>some (.str x)
 | .bytes b _=>some (.byt b)
 | .float b _=>some (.flt b)
 | .ref a=>some (.ref a)
 | .type n=>some (.ty n)
 |_=>none
theorem RelV.abs {x:V}{u:Value}(r:RelV x u):aLH u=some x:=by
 cases x with
 |non=>cases r;rfl
 |bl _=>cases r;rfl
 |int _=>obtain⟨t,rfl⟩:=r;rfl
 |str _=>obtain⟨t,rfl⟩:=r;rfl
 |byt _=>obtain⟨t,rfl⟩:=r;rfl
 |flt _=>obtain⟨t,rfl⟩:=r;rfl
 |ref _=>cases r;rfl
 |ty _=>cases r;rfl
theorem RelV.inj {x y:V}{u:Value}(r:RelV x u)(q:RelV y u):x=y:=az (r.abs.symm.trans q.abs)
theorem Vals.inj:∀{xs ys:List V}{us:List Value},Vals xs us->Vals ys us->xs=ys
 |_,_,_, .nil, .nil=>rfl
 |_,_,_, .cons r t, .cons r' t'=>by rw[r.inj r',Vals.inj t t']
section
variable {X:Cx}{pins:List (Addr×Obj)}{σ:St}{H:Hp}{s:Shared}{a:Addr}{xs ys:List V}
theorem SqL.of {K:ae}(h:H a=some (.lst xs)):SqL K H a xs := .inl (.inl h)
theorem SqT.of {K:ae}(h:H a=some (.tup xs)):SqT K H a xs := .inl (.inl h)
theorem Inv.list (I:Inv X pins σ H s)(h:SqL X.K H a xs):∃its:List Value,Vals xs its/\PlainL s.heap a its.toArray/\xs.length<=bx:=by
 rcases h with h | ⟨o,its,n,hk,hc,hd,hs,hz,r⟩
 ·obtain⟨z,its,n,r,e⟩:=h.ok I.hok
  exact⟨its,r,⟨_,n,e,rfl,rfl,rfl⟩,z⟩
 ·refine⟨its.toList,r,⟨o,n,I.kIn a o hk,hc,hd,by simpa using hs⟩,?_⟩
  have e:=r.length
  simp only[cg] at e
  omega
theorem Inv.tuple (I:Inv X pins σ H s)(h:SqT X.K H a xs):∃its:List Value,Vals xs its/\IsTup s.heap a its.toArray/\xs.length<=bx:=by
 rcases h with h | ⟨o,its,n,hk,hc,_,hs,hz,r⟩
 ·obtain⟨z,its,r,p⟩:=h.ok I.hok
  exact⟨its,r,p.tup,z⟩
 ·refine⟨its.toList,r,⟨o,I.kIn a o hk,hc,n,by simpa using hs⟩,?_⟩
  have e:=r.length
  simp only[cg] at e
  omega
theorem Inv.list_inj (I:Inv X pins σ H s)(h:SqL X.K H a xs)(h':SqL X.K H a ys):xs=ys:=by
 obtain⟨its,r,⟨o,n,e,_,_,d⟩,_⟩:=I.list h
 obtain⟨its',r',⟨o',n',e',_,_,d'⟩,_⟩:=I.list h'
 rw[e] at e';cases e'
 rw[d] at d'
 injection d' with d1 _
 have:its=its':=by simpa using congrArg As d1
 subst this
 exact r.inj r'
theorem Inv.tuple_inj (I:Inv X pins σ H s)(h:SqT X.K H a xs)(h':SqT X.K H a ys):xs=ys:=by
 obtain⟨its,r,⟨o,e,_,n,d⟩,_⟩:=I.tuple h
 obtain⟨its',r',⟨o',e',_,n',d'⟩,_⟩:=I.tuple h'
 rw[e] at e';cases e'
 rw[d] at d'
 injection d' with d1 _
 have:its=its':=by simpa using congrArg As d1
 subst this
 exact r.inj r'
end
abbrev Cx.wish (X:Cx) (E:Value->Shared->Prop):Cx:={ X with xe:=E }
abbrev Cx.nox (X:Cx):Cx:=X.wish λ_ _=>False
theorem Cx.Ok.wish {X:Cx}(ok:X.Ok)(E:Value->Shared->Prop):(X.wish E).Ok:=
 ⟨ok.mod,ok.kind,ok.glob,ok.blt,ok.above,ok.inj,ok.has,ok.cab,ok.hd,ok.frames,ok.stk,ok.exf,ok.bs,ok.bsz,ok.noex,ok.exfs,ok.funs,ok.frf⟩
theorem Cx.Ok.unwish {X:Cx}{E:Value->Shared->Prop}(ok:(X.wish E).Ok):X.Ok:=
 ⟨ok.mod,ok.kind,ok.glob,ok.blt,ok.above,ok.inj,ok.has,ok.cab,ok.hd,ok.frames,ok.stk,ok.exf,ok.bs,ok.bsz,ok.noex,ok.exfs,ok.funs,ok.frf⟩
section
variable {X:Cx}{pins:List (Addr×Obj)}{σ:St}{H:Hp}{s:Shared}{E:Value->Shared->Prop}
theorem Inv.wish (I:Inv X pins σ H s)(E:Value->Shared->Prop):Inv (X.wish E) pins σ H s:=⟨I.ok.wish E,I.os,I.bare,I.base,I.loc,I.cell,I.free,I.freeC,I.pin,I.hok,I.len⟩
theorem Inv.unwish (I:Inv (X.wish E) pins σ H s):Inv X pins σ H s:=⟨I.ok.unwish,I.os,I.bare,I.base,I.loc,I.cell,I.free,I.freeC,I.pin,I.hok,I.len⟩
theorem SP.unwish {D:mB}{f:Flow}{s':Shared}(h:SP (X.wish E) pins D f s'):SP X pins D f s':=by
 cases f with
 |next=>obtain⟨σ',H',I,q⟩:=h;exact⟨σ',H',I.unwish,q⟩
 |brk=>obtain⟨σ',H',I,q⟩:=h;exact⟨σ',H',I.unwish,q⟩
 |cont=>obtain⟨σ',H',I,q⟩:=h;exact⟨σ',H',I.unwish,q⟩
 |ret u=>obtain⟨v,σ',H',I,r,q⟩:=h;exact⟨v,σ',H',I.unwish,r,q⟩
theorem PT.nox {e:Expr}{t:TT}(h:PT X.nox e t):PT X e t:=λpins s σ H Q I hw=>
 jl (h pins s σ H Q (I.wish _) hw) (λ_ _ ⟨H',I',q⟩=>⟨H',I'.unwish,q⟩) λ_ _ z=>lq z
theorem PSs.nox {st:List Stmt}{t:TS}(h:PSs X.nox st t):PSs X st t:=λpins s σ H D I hw=>
 jl (h pins s σ H D (I.wish _) hw) (λ_ _ q=>q.unwish) λ_ _ z=>lq z
end
section
variable {X:Cx}{st:Stmt}{rest:List Stmt}{t u:TS}{e:Expr}{te:TE}{pos:Pos}
def aK:TS:=λD σ H=>D.nx σ H
def aP (t u:TS):TS:=λD σ H=>t { D with nx:=u D } σ H
theorem aF:PSs X [] aK:=λ_ _ σ H _ I h=>xl ⟨σ,H,I,h⟩
theorem aA (h1:PS X st t)(h2:PSs X rest u):PSs X (st :: rest) (aP t u):=by
 intro pins s σ H D I h
 refine wpAny_execs_cons (thn (h1 pins s σ H { D with nx:=u D } I h) λf s1 q=>?_)
 cases f with
 |next=>
  obtain⟨σ',H',I',q⟩:=q
  exact h2 pins s1 σ' H' D I' q
 |ret v=>exact q
 |brk=>exact q
 |cont=>exact q
theorem Inv.quiet {pins:List (Addr×Obj)}{σ:St}{H:Hp}{s:Shared}(I:Inv X pins σ H s):interactive X.env=false:=by simp[interactive,I.ok.kind]
def nG (te:TE):TS:=λD σ H=>te σ H λ_ H1=>D.nx σ H1
theorem gD (he:PE X e te)(hs:swapsWith e none pos.line X.env=pure false:=by rfl):PS X (.Expr e pos) (nG te):=by
 intro pins s σ H D I h
 exact wpAny_Expr_any (thn (he pins s σ H _ I h) λv s1 ⟨x,H1,I1,r1,q1⟩=>⟨σ,H1,I1,q1⟩) I.quiet hs
def cS (te:TE):TS:=λD σ H=>te σ H D.rt
theorem aS (he:PE X e te):PS X (.Return (some e) pos) (cS te):=by
 intro pins s σ H D I h
 exact wpAny_Return_some (thn (he pins s σ H _ I h) λv s1 ⟨x,H1,I1,r1,q1⟩=>⟨x,σ,H1,I1,r1,q1⟩)
def dP (c:TT) (t u:TS):TS:=λD σ H=>c σ H λb H1=>if b=true then t D σ H1 else u D σ H1
theorem cJ {c:Expr}{a b:List Stmt}{tc:TT}(hc:PT X c tc)(ha:PSs X a t)(hb:PSs X b u):PS X (.If c a b pos) (dP tc t u):=by
 intro pins s σ H D I h
 refine wpAny_If (thn (hc pins s σ H _ I h) λd s1 ⟨H1,I1,q1⟩=>?_)
 cases d with
 |true=>exact ha pins s1 σ H1 D I1 q1
 |false=>exact hb pins s1 σ H1 D I1 q1
end
abbrev TG:=V->St->Hp->(St->Hp->Prop)->Prop
abbrev TGs:=List V->St->Hp->(St->Hp->Prop)->Prop
def PG (X:Cx) (target:Expr) (t:TG):Prop:=
 ∀(pins:List (Addr×Obj)) (s:Shared) (σ:St) (H:Hp) (v:V) (u:Value) (Q:St->Hp->Prop),Inv X pins σ H s->RelV v u->t v σ H Q ->
  wpAny (model X.prog X.w) X.A (Au target X.env u) (λ_ s'=>∃σ' H',Inv X pins σ' H' s'/\Q σ' H') X.xe s
def PGs (X:Cx) (ts:List Expr) (t:TGs):Prop:=
 ∀(pins:List (Addr×Obj)) (s:Shared) (σ:St) (H:Hp) (vs:List V) (us:List Value) (Q:St->Hp->Prop),Inv X pins σ H s->Vals vs us->t vs σ H Q ->
  wpAny (model X.prog X.w) X.A (zu ((ql ts X.env).map (·.2)) us) (λ_ s'=>∃σ' H',Inv X pins σ' H' s'/\Q σ' H') X.xe s
abbrev aKr:=V->V->V->Hp->(Hp->Prop)->Prop
def aLi (X:Cx) (t:aKr):Prop:=
 ∀(pins:List (Addr×Obj)) (s:Shared) (σ:St) (H:Hp) (o i v:V) (ov iv u:Value) (Q:Hp->Prop),Inv X pins σ H s->RelV o ov->RelV i iv->RelV v u->t o i v H Q ->
  wpAny (model X.prog X.w) X.A (setItem ov iv u) (λ_ s'=>∃H',Inv X pins σ H' s'/\Q H') X.xe s
section
variable {X:Cx}{pos:Pos}
def aJ (i:Nat):TG:=λv σ H Q=>Q (σ.set i (some v)) H
theorem aL {i:Nat}{x:Str}(hN:X.N.Nodup)(hi:X.N[i]?=some x)(hx:Loc X.env.scope x)(hf:X.fn x=true\/X.env.scope.names.lookup x=some .local:=by first | exact .inl rfl | exact .inr rfl | assumption):PG X (.Name x pos) (aJ i):=by
 intro pins s σ H v u Q I r h
 exact wpAny_assign_Name (nO I hN hi hx r (λs' I'=>⟨_,H,I',h⟩) hf)
def jU:TGs:=λvs σ H Q=>vs=[]/\Q σ H
def bN (t:TG) (u:TGs):TGs:=λvs σ H Q=>∃v r,vs=v :: r/\t v σ H λσ' H'=>u r σ' H' Q
theorem bU:PGs X [] jU:=by
 intro pins s σ H vs us Q I r h
 obtain⟨e,h⟩:=h
 subst e
 cases r
 exact assignInOrder_nil ⟨σ,H,I,h⟩
theorem aO {e:Expr}{es:List Expr}{t:TG}{u:TGs}(h1:PG X e t)(h2:PGs X es u)
  (hs:(ql (e :: es) X.env).map (·.2)=Au e X.env :: (ql es X.env).map (·.2):=by rfl):PGs X (e :: es) (bN t u):=by
 intro pins s σ H vs us Q I r h
 obtain⟨v,vr,e1,h⟩:=h
 subst e1
 cases r with
 |cons r rr=>
  rw[hs]
  refine ur (thn (h1 pins s σ H _ _ _ I r h) λ_ s1 ⟨σ1,H1,I1,q1⟩=>?_)
  exact h2 pins s1 σ1 H1 _ _ Q I1 rr q1
def jI (K:ae) (n:Nat) (t:TGs):TG:=λv σ H Q=>∃a xs,v = .ref a/\SqT K H a xs/\xs.length=n/\t xs σ H Q
theorem aIw {es:List Expr}{k:Nat}{t:TGs}{n:Nat}(hc:X.calm=true)(h:PGs X es t)
  (hn:(ql es X.env).length=n:=by rfl) (hst:(ql es X.env).findIdx? (·.1)=none:=by rfl):PG X (.Tuple es k pos) (jI X.K n t):=by
 intro pins s σ H v u Q I r hw
 obtain⟨a,xs,e1,hq,hl,hw⟩:=hw
 subst e1
 cases r
 obtain⟨its,rv,ht,hz⟩:=I.tuple hq
 refine assign_Tuple_tuple (I.ok.hd hc) ht (by simp[hn,<- hl,rv.length]) hst λh' hx=>?_
 have I1:Inv X pins σ H { s with heap:=h' }:=I.kept (t':=s.toks) λb o e=>hx b o (c6 (bj e)) e
 exact h pins _ σ H xs _ Q I1 (by simpa using rv) hw
def lJ (to ti:TE) (t:aKr):TG:=λv σ H Q=>to σ H λo H1=>ti σ H1 λi H2=>t o i v H2 λH3=>Q σ H3
theorem kE {o i:Expr}{to ti:TE}{t:aKr}(ho:PE X o to)(hi:PE X i ti)(hs:aLi X t)
  (ha:∀v,Au (.Subscript o i pos) X.env v=(do
   let ov <- Ag [v] (eval o X.env)
   let iv <- Ag [v,ov] (eval i X.env)
   AJ pos
   Ag [v,ov,iv] (setItem ov iv v)
   release [v,ov,iv] []):=by intro _;rfl):PG X (.Subscript o i pos) (lJ to ti t):=by
 intro pins s σ H v u Q I r h
 rw[ha]
 refine aa (fq (thn (ho pins s σ H _ I h) λov s1 ⟨x,H1,I1,r1,q1⟩=>?_))
 refine aa (fq (thn (hi pins s1 σ H1 _ I1 q1) λiv s2 ⟨y,H2,I2,r2,q2⟩=>?_))
 refine aa (qa (aa (fq (thn (hs pins s2 σ H2 x y v ov iv u _ I2 r1 r2 r q2) λ_ s3 ⟨H3,I3,q3⟩=>?_))))
 exact wpAny_release ⟨σ,H3,I3,q3⟩
def bO (te:TE) (g:TG):TS:=λD σ H=>te σ H λx H1=>g x σ H1 D.nx
theorem fB {tg e:Expr}{te:TE}{g:TG}(he:PE X e te)(hg:PG X tg g)(hs:swapsWithSole [tg] e pos.line X.env=pure false:=by rfl)(hw:swappedStores [tg] e X.env=pure none:=by rfl)
  (h1:(ql [tg] X.env).map (·.2)=[Au tg X.env]:=by rfl):PS X (.Assign [tg] e pos) (bO te g):=by
 intro pins s σ H D I h
 refine wpAny_Assign_stores (thn (he pins s σ H _ I h) λv s1 ⟨x,H1,I1,r1,q1⟩=>?_) hs hw
 rw[h1]
 exact thn (hg pins s1 σ H1 x v _ I1 r1 q1) λ_ s2 q=>q
theorem bA {i:Nat}{x:Str}{e:Expr}{te:TE}{pos':Pos}(hN:X.N.Nodup)(hi:X.N[i]?=some x)(hx:Loc X.env.scope x)(he:PE X e te)(hs:swapsWith e (some (.Name x pos')) pos.line X.env=pure false:=by rfl)(hf:X.fn x=true\/X.env.scope.names.lookup x=some .local:=by first | exact .inl rfl | exact .inr rfl | assumption) :
  PS X (.Assign [.Name x pos'] e pos) (bO te (aJ i)):=by
 intro pins s σ H D I h
 refine wpAny_Assign_Name (thn (he pins s σ H _ I h) λv s1 ⟨y,H1,I1,r1,q1⟩=>?_) hs
 exact nO I1 hN hi hx r1 (λs2 I2=>⟨_,H1,I2,q1⟩) hf
def aJO (i j:Nat) (ta:TA):TS:=λD σ H=>ta σ H λvs H1=>∃v w,vs=[v,w]/\D.nx ((σ.set i (some v)).set j (some w)) H1
theorem aFu {i j:Nat}{x y:Str}{a b:Expr}{ta:TA}{px py pt:Pos}{kt k2 pt2}(hc:X.calm=true)(hN:X.N.Nodup)(hi:X.N[i]?=some x)(hj:X.N[j]?=some y)(hij:i≠j)
  (hx:X.env.scope.names.lookup x=some .local) (hy:X.env.scope.names.lookup y=some .local) (ha:PA X [a,b] ta)
  (hw:swappedStores [.Tuple [.Name x px, .Name y py] kt pt] (.Tuple [a,b] k2 pt2) X.env=pure (some [x,y]))
  (hs:swapsWithSole [.Tuple [.Name x px, .Name y py] kt pt] (.Tuple [a,b] k2 pt2) pos.line X.env=pure false:=by rfl) :
  PS X (.Assign [.Tuple [.Name x px, .Name y py] kt pt] (.Tuple [a,b] k2 pt2) pos) (aJO i j ta):=by
 intro pins s σ H D I h
 rw[exec_Assign_arm]
 refine aa (qa ?_)
 rw[hs]
 refine aa (ao ?_)
 rw[if_neg (by decide)]
 refine aa (Tuple_ (thn (ha _ pins s σ H _ I h) λus s1 ⟨vs,H1,I1,r1,q1⟩=>?_))
 obtain⟨v,w,e1,q1⟩:=q1
 subst e1
 obtain⟨u1,u2,rfl,rv,rw'⟩:∃u1 u2,us=[u1,u2]/\RelV v u1/\RelV w u2:=by
  cases r1 with
  |cons p q=>
   cases q with
   |cons p' q'=>
    cases q'
    exact⟨_,_,rfl,p,p'⟩
 refine fc ?_ (by show 2<=bx;decide)
 have I2:Inv X pins σ H1 { s1 with heap:=s1.heap.push { cls := .type "tuple",data := .seq [u1,u2].toArray } }:=I1.kept (t':=s1.toks) λb o e=>aj _ e
 rw[hw]
 refine aa (ao ?_)
 show wpAny (model X.prog X.w) X.A (do rule "assign.swapped-stores";let items <- unpackItems (.ref s1.heap.objs.size) 2 none;zu [λv=>bindName X.env y v,λv=>bindName X.env x v] items.reverse;pure Flow.next) _ _ _
 refine aa (nh (aa (unpackItems_tuple (items:=#[u1,u2]) (I.ok.hd hc) (IsTup.new s1.heap _) λh' hx'=>?_)))
 have I3:=I2.kept (h':=h') (t':=s1.toks) λb o e=>hx' b o (c6 (bj e)) e
 show wpAny _ _ (zu [λv=>bindName X.env y v,λv=>bindName X.env x v] [u2,u1] >>= λ_=>pure Flow.next) _ _ _
 refine aa (ur (wpAny_bindName (nO I3 hN hj (.inl hy) rw' (λs2 I4=>?_) (.inr hy))))
 refine ur (wpAny_bindName (nO I4 hN hi (.inl hx) rv (λs3 I5=>assignInOrder_nil (ao ?_)) (.inr hx)))
 rw[List.set_comm _ _ (iw hij)] at I5
 exact⟨_,H1,I5,q1⟩
end
section
variable {X:Cx}{pos:Pos}
def aAQ (c:TT) (tb:TS):TS:=λD σ H=>∃W:Nat->St->Hp->Prop,(∃m,W m σ H)/\∀m σ H,W m σ H ->
 c σ H λb H1=>if b=true then ∃N:St->Hp->Prop,(∀σ' H',N σ' H'->∃m',m'<m/\W m' σ' H')/\tb { D with nx:=N,ct:=N,bk:=D.nx } σ H1 else D.nx σ H1
theorem tZ {c:Expr}{body:List Stmt}{tc:TT}{tb:TS}(hp:PassesOwn (model X.prog X.w) X.A X.env X.xe)(hc:PT X c tc)(hb:PSs X body tb):PS X (.While c body [] pos) (aAQ tc tb):=by
 intro pins s σ H D I h
 obtain⟨W,⟨m0,w0⟩,turn⟩:=h
 refine wpAny_While (codeAny_whileLoop (λn s'=>∃σ' H',Inv X pins σ' H' s'/\W n σ' H') ?_ m0 ⟨σ,H,I,w0⟩)
 rintro n s1 ⟨σ1,H1,I1,w1⟩
 refine lr hp (thn (hc pins s1 σ1 H1 _ I1 (turn n σ1 H1 w1)) λb s2 ⟨H2,I2,q2⟩=>?_)
 cases b with
 |true=>
  obtain⟨N,hN,q2⟩:=q2
  rw[if_pos rfl]
  refine lr hp (thn (hb pins s2 σ1 H2 _ I2 q2) λf s3 q3=>?_)
  cases f with
  |next=>
   obtain⟨σ3,H3,I3,n3⟩:=q3
   obtain⟨m',hm,w3⟩:=hN σ3 H3 n3
   exact⟨m',hm,σ3,H3,I3,w3⟩
  |cont=>
   obtain⟨σ3,H3,I3,n3⟩:=q3
   obtain⟨m',hm,w3⟩:=hN σ3 H3 n3
   exact⟨m',hm,σ3,H3,I3,w3⟩
  |brk=>exact q3
  |ret v=>exact q3
 |false=>
  rw[if_neg bq]
  exact xl ⟨σ1,H2,I2,q2⟩
end
structure It where
 go:Nat->Hp->Prop
 yld:Nat->Hp->V->Hp->Prop
 stop:Nat->Hp->Prop
def FpOk (X:Cx) (pins:List (Addr×Obj)) (H:Hp) (b:Addr):Prop:=
 H b=none/\b≠X.env.locals/\b∉X.fs/\(b∈X.ex\/X.s₀.heap.objs.size<=b)/\(∀x c,X.env.cells.lookup x=some c->c≠b)/\∀p∈X.pn++pins,p.1≠b
theorem Inv.fpOk {X:Cx}{pins:List (Addr×Obj)}{σ:St}{H H':Hp}{s:Shared}{b:Addr}(I:Inv X pins σ H s)(hb:s.heap.objs.size<=b)(hn:H' b=none):FpOk X pins H' b:=by
 refine⟨hn,ja (aw I.lt hb),I.nofs hb, .inr (c9 I.sz hb),λx c e z=>?_,λp hp z=>?_⟩
 ·obtain⟨v,q⟩:=I.cell x c e
  exact absurd (aw q.lt (by rw[z];exact hb)) (kx _)
 ·exact absurd (aw (bj (I.pin p hp).1) (by rw[z];exact hb)) (kx _)
structure aEW (P:Program)(w:World)(K:ae)(tg:Expr)(J:It)(fp:List Addr)(it:Addr)(tn:Nat->Heap->Prop):Prop where
 mem:it∈fp
 obj:∀i h,tn i h->∀b∈fp,∃o,h.get? b=some o/\∀v,o.data ≠ .cell v
 keep:∀i h h',tn i h->(∀b∈fp,∀o,h.get? b=some o->h'.get? b=some o)->tn i h'
 item:∀(X:Cx),X.prog=P->X.w=w->X.K=K->X.calm=true->∀(i:Nat) (pins:List (Addr×Obj)) (s:Shared) (σ:St) (H:Hp) (E:Value->Shared->Prop),Inv X pins σ H s->(∀b∈fp,FpOk X pins H b)->tn i s.heap->J.go i H ->
  wpAny (model P w) X.A (qh (.ref it)) (λr s1=>∃u,r=some u /\
   wpAny (model P w) X.A (tu tg (.ref it) u) (λ_ s2=>∃x H',Inv X pins σ H' s2/\RelV x u/\J.yld i H x H'/\tn (i+1) s2.heap/\∀b∈fp,H' b=none) E s1) E s
 done:∀(X:Cx),X.prog=P->X.w=w->X.K=K->X.calm=true->∀(i:Nat) (pins:List (Addr×Obj)) (s:Shared) (σ:St) (H:Hp) (E:Value->Shared->Prop),Inv X pins σ H s->(∀b∈fp,FpOk X pins H b)->tn i s.heap->J.stop i H ->
  wpAny (model P w) X.A (qh (.ref it)) (λr s1=>r=none/\Inv X pins σ H s1) E s
 self:∀(A:Around) (i:Nat) (s:Shared) (Q:Value->Shared->Prop) (E:Value->Shared->Prop),tn i s.heap->Q (.ref it) s->wpAny (model P w) A (zv (.ref it)) Q E s
abbrev TI:=St->Hp->(It->Hp->Prop)->Prop
def PIE (X:Cx) (pins:List (Addr×Obj)) (σ:St) (tg:Expr) (R:It->Hp->Prop) (itv:Value) (s2:Shared):Prop:=
 ∃(it:Addr) (fp:List Addr) (tn:Nat->Heap->Prop) (J:It) (H':Hp),itv = .ref it/\Inv X pins σ H' s2/\aEW X.prog X.w X.K tg J fp it tn/\tn 0 s2.heap/\(∀b∈fp,FpOk X pins H' b)/\R J H'
def PI (X:Cx) (tg iter:Expr) (wi:TI):Prop:=
 ∀(pins:List (Addr×Obj)) (s:Shared) (σ:St) (H:Hp) (R:It->Hp->Prop),Inv X pins σ H s->wi σ H R ->
  wpAny (model X.prog X.w) X.A (eval iter X.env) (λv s1=>wpAny (model X.prog X.w) X.A (zv v) (PIE X pins σ tg R) X.xe s1) X.xe s
theorem aGY {M : Model}{A : Around}{E : Value -> Shared -> Prop}{s : Shared}{tg : Expr}{it : Addr}{u : Value}{o : Obj}{n : String}{vs : Array Value}{Q : Unit -> Shared -> Prop} (ho : s.heap.get? it = some o) (hc : o.cls = .type n) (hd : o.data = .fields vs)
    (hn : ["enumerate", "zip", "dict_itemiterator", "dict_reverseitemiterator", "odict_iterator", "itertools.zip_longest", "itertools.pairwise"].contains n = false) (hQ : Q () s) : wpAny M A (tu tg (.ref it) u) Q E s := by
  unfold tu
  cases tg <;> first
    |exact ao hQ
    | (cases u <;> first
        |exact ao hQ
        | (refine aa (Ah ho ?_)
           rw[hc, hd]
           show wpAny M A (if(["enumerate", "zip", "dict_itemiterator", "dict_reverseitemiterator", "odict_iterator", "itertools.zip_longest", "itertools.pairwise"].contains n && vs[0]? == some (jb _)) = true then _ else _) Q E s
           rw[if_neg (by intro h; rw[hn, gy] at h; cases h)]
           exact ao hQ))
def Itl (K:ae) (a:Addr):It:=
 ⟨λi H=>∃xs x,SqL K H a xs/\xs[i]?=some x,λi H x H'=>H'=H/\∀xs,SqL K H a xs->xs[i]?=some x,λi H=>∃xs,SqL K H a xs/\xs.length<=i⟩
def Itt (K:ae) (a:Addr):It:=
 ⟨λi H=>∃xs x,SqT K H a xs/\xs[i]?=some x,λi H x H'=>H'=H/\∀xs,SqT K H a xs->xs[i]?=some x,λi H=>∃xs,SqT K H a xs/\xs.length<=i⟩
def Itr (lo:Int) (n:Nat):It:=⟨λi _=>i<n,λi H x H'=>H'=H/\x = .int (lo+i),λi _=>n<=i⟩
theorem aBQ {P:Program}{w:World}{K:ae}{tg:Expr}(a it:Addr):aEW P w K tg (Itl K a) [it] it (λi h=>h.IsListIter it a i) where
 mem:=by simp
 obj:=λi h st b hb=>by
  have e:b=it:=by simpa using hb
  subst e
  obtain⟨o,e,c,d⟩:=st
  exact⟨o,e,λv z=>by rw[d] at z;cases z⟩
 keep:=λi h h' st k=>st.at λo e=>k it (by simp) o e
 item:=by
  intro X hP hw hK hc i pins s σ H E I hf st hg
  subst hP hw hK
  obtain⟨xs,x,hq,hx⟩:=hg
  obtain⟨its,rv,p,hz⟩:=I.list hq
  obtain⟨u,hu,ru⟩:=rv.get hx
  obtain⟨f0,f1,f2,f3,f4,f5⟩:=hf it (by simp)
  refine wpAny_pyNext_list_item st p.isList (x:=u) (by simpa using hu) λh' st' sb=>?_
  have I1:Inv X pins σ H { s with heap:=h' }:=I.turned (t':=s.toks) (λb o hb e=>(sb.2 b hb).trans e) f0 f1 f3 f4 f5
  obtain⟨o,e,c,d⟩:=id st'
  exact⟨u,rfl,aGY (s:={ s with heap:=h' }) e c d (by decide) ⟨x,H,I1,ru,⟨rfl,λys hy=>by rw[I.list_inj hy hq];exact hx⟩,st',λb hb=>(hf b hb).1⟩⟩
 done:=by
  intro X hP hw hK hc i pins s σ H E I hf st hg
  subst hP hw hK
  obtain⟨xs,hq,hx⟩:=hg
  obtain⟨its,rv,p,hz⟩:=I.list hq
  obtain⟨f0,f1,f2,f3,f4,f5⟩:=hf it (by simp)
  have hl:=rv.length
  exact wpAny_pyNext_list_end (I.ok.hd hc) st p.isList (by simp;omega) λh' eb=>⟨rfl,I.turned (t':=s.toks) (λb o hb e=>eb b o hb e) f0 f1 f3 f4 f5⟩
 self:=λ_ _ _ _ _ st h=>wpAny_pyIter_listiter st h
theorem aBh {P:Program}{w:World}{K:ae}{tg:Expr}(a it:Addr):aEW P w K tg (Itt K a) [it] it (λi h=>h.IsTupleIter it a i) where
 mem:=by simp
 obj:=λi h st b hb=>by
  have e:b=it:=by simpa using hb
  subst e
  obtain⟨o,e,c,d⟩:=st
  exact⟨o,e,λv z=>by rw[d] at z;cases z⟩
 keep:=λi h h' st k=>st.at λo e=>k it (by simp) o e
 item:=by
  intro X hP hw hK hc i pins s σ H E I hf st hg
  subst hP hw hK
  obtain⟨xs,x,hq,hx⟩:=hg
  obtain⟨its,rv,p,hz⟩:=I.tuple hq
  obtain⟨u,hu,ru⟩:=rv.get hx
  obtain⟨f0,f1,f2,f3,f4,f5⟩:=hf it (by simp)
  refine wc st (show s.heap.IsTuple a its.toArray from p) (x:=u) (by simpa using hu) λh' st' sb=>?_
  have I1:Inv X pins σ H { s with heap:=h' }:=I.turned (t':=s.toks) (λb o hb e=>(sb.2 b hb).trans e) f0 f1 f3 f4 f5
  obtain⟨o,e,c,d⟩:=id st'
  exact⟨u,rfl,aGY (s:={ s with heap:=h' }) e c d (by decide) ⟨x,H,I1,ru,⟨rfl,λys hy=>by rw[I.tuple_inj hy hq];exact hx⟩,st',λb hb=>(hf b hb).1⟩⟩
 done:=by
  intro X hP hw hK hc i pins s σ H E I hf st hg
  subst hP hw hK
  obtain⟨xs,hq,hx⟩:=hg
  obtain⟨its,rv,p,hz⟩:=I.tuple hq
  obtain⟨f0,f1,f2,f3,f4,f5⟩:=hf it (by simp)
  have hl:=rv.length
  exact xa (I.ok.hd hc) st (show s.heap.IsTuple a its.toArray from p) (by simp;omega) λh' eb=>⟨rfl,I.turned (t':=s.toks) (λb o hb e=>eb b o hb e) f0 f1 f3 f4 f5⟩
 self:=λ_ _ _ _ _ st h=>xb st h
theorem aBk {P:Program}{w:World}{K:ae}{tg:Expr}(it:Addr)(lo:Int)(n:Nat):aEW P w K tg (Itr lo n) [it] it (λi h=>IsRangeIter h it (lo+(i:Nat)*1) ((n:Int) - (i:Nat)) 1) where
 mem:=by simp
 obj:=λi h st b hb=>by
  have e:b=it:=by simpa using hb
  subst e
  exact⟨_,st,λv z=>by
   have z':Data.fields _=Data.cell v:=z
   cases z'⟩
 keep:=λi h h' st k=>k it (by simp) _ st
 item:=by
  intro X hP hw hK hc i pins s σ H E I hf st hg
  subst hP hw hK
  obtain⟨f0,f1,f2,f3,f4,f5⟩:=hf it (by simp)
  have W:=Walks.range (prog:=X.prog) (w:=X.w) (I.ok.hd hc) it lo 1 n
  refine W.item i s _ _ hg st λv h' tk hv st' kk=>?_
  obtain⟨t,rfl⟩:=hv
  have I1:Inv X pins σ H { s with heap:=h',toks:=tk }:=I.turned (λb o hb e=>kk b o (by simpa using hb) e) f0 f1 f3 f4 f5
  refine⟨_,rfl,aGY (s:={ s with heap:=h',toks:=tk }) (n:="range_iterator") st' rfl rfl (by decide) ⟨.int (lo+i),H,I1,⟨t,?_⟩,⟨rfl,rfl⟩,st',λb hb=>(hf b hb).1⟩⟩
  rw[kl]
 done:=by
  intro X hP hw hK hc i pins s σ H E I hf st hg
  subst hP hw hK
  obtain⟨f0,f1,f2,f3,f4,f5⟩:=hf it (by simp)
  exact wpAny_pyNext_range_end (I.ok.hd hc) st (by have:n<=i:=hg;omega) λh' eb=>⟨rfl,I.turned (t':=s.toks) (λb o hb e=>eb b o hb e) f0 f1 f3 f4 f5⟩
 self:=λ_ _ _ _ _ st h=>wpAny_pyIter_rangeiter st h
section
variable {X:Cx}{tg:Expr}
theorem aAi {pins:List (Addr×Obj)}{σ:St}{H:Hp}{s:Shared}{R:It->Hp->Prop}{E:Value->Shared->Prop}{lo hi:Int}{t u v:Tok}{tk:Nat}(I:Inv X pins σ H s)(h1:-(2 ^ 62)<=lo)(h2:lo<2 ^ 62)(h3:-(2 ^ 62)<=hi)(h4:hi<2 ^ 62)
  (q:R (Itr lo (hi - lo).toNat) H):wpAny (model X.prog X.w) X.A (zv (.ref s.heap.objs.size)) (PIE X pins σ tg R) E { s with heap:=s.heap.push { cls := .type "range",data := .fields #[.int lo t, .int hi u, .int 1 v] },toks:=tk }:=by
 refine wpAny_pyIter_range (IsRange.new ..) (small_one h1 h2 h3 h4) ?_
 have I1:Inv X pins σ H { s with heap:=s.heap.push { cls := .type "range",data := .fields #[.int lo t, .int hi u, .int 1 v] },toks:=tk }:=I.kept λb o e=>aj _ e
 refine⟨(s.heap.push { cls := .type "range",data := .fields #[.int lo t, .int hi u, .int 1 v] }).objs.size,[(s.heap.push { cls := .type "range",data := .fields #[.int lo t, .int hi u, .int 1 v] }).objs.size],_,_,H,rfl,
  I1.kept (t':=tk) λb o e=>aj _ e,aBk _ lo (hi - lo).toNat,?_,λb hb=>?_,q⟩
 ·have e1:lo+((0:Nat):Int)*1=lo:=by simp
  have e2:(((hi - lo).toNat:Nat):Int) - ((0:Nat):Int)=Builtin.Range.rangeSize lo hi 1:=by rw[rangeSize_one];split <;> omega
  show IsRangeIter _ _ (lo+((0:Nat):Int)*1) ((((hi - lo).toNat:Nat):Int) - ((0:Nat):Int)) 1
  rw[e1,e2]
  exact ay _ rfl
 ·have e:b=(s.heap.push { cls := .type "range",data := .fields #[.int lo t, .int hi u, .int 1 v] }).objs.size:=by simpa using hb
  subst e
  exact I1.fpOk (ba _) (I1.hok.fresh (ba _))
def iC (ta:TA):TI:=λσ H R=>ta σ H λvs H1=>∃j:Int,vs=[.int j]/\-(2 ^ 62)<=j/\j<2 ^ 62/\R (Itr 0 j.toNat) H1
def aGf (ta:TA):TI:=λσ H R=>ta σ H λvs H1=>∃i j:Int,vs=[.int i, .int j]/\(-(2 ^ 62)<=i/\i<2 ^ 62/\-(2 ^ 62)<=j/\j<2 ^ 62)/\R (Itr i (j - i).toNat) H1
theorem cH {a:Expr}{ta:TA}{p pos:Pos}(hg:Gl X "range")(hm:X.mg "range" = none)(ha:PA X [a] ta)(hs:fi [a] X.env=[(false,eval a X.env)]:=by rfl):PI X tg (.Call (.Name "range" p) [a] [] pos) (iC ta):=by
 intro pins s σ H R I h
 refine Call_ (oH I hg hm boot_range (jg (thn (ha pos pins s σ H _ I h) λus s1 ⟨vs,H1,I1,r1,q1⟩=>?_) hs rfl))
 obtain⟨j,e,q1,q2,q⟩:=q1
 subst e
 cases r1 with
 |cons r rr=>
  cases rr
  obtain⟨t,rfl⟩:=r
  exact call_range_1 (aAi I1 (by omega) (by omega) q1 q2 (by simpa using q))
theorem vN {a b:Expr}{ta:TA}{p pos:Pos}(hg:Gl X "range")(hm:X.mg "range" = none)(ha:PA X [a,b] ta)(hs:fi [a,b] X.env=[(false,eval a X.env),(false,eval b X.env)]:=by rfl)(hs2:fi [b] X.env=[(false,eval b X.env)]:=by rfl) :
  PI X tg (.Call (.Name "range" p) [a,b] [] pos) (aGf ta):=by
 intro pins s σ H R I h
 refine Call_ (oH I hg hm boot_range (jg (thn (ha pos pins s σ H _ I h) λus s1 ⟨vs,H1,I1,r1,q1⟩=>?_) (by rw[hs,hs2]) (by rw[hs2];rfl)))
 obtain⟨i,j,e,⟨q1,q2,q3,q4⟩,q⟩:=q1
 subst e
 cases r1 with
 |cons r rr=>
  cases rr with
  |cons r' rr=>
   cases rr
   obtain⟨t,rfl⟩:=r
   obtain⟨t',rfl⟩:=r'
   exact call_range_2 (aAi I1 q1 q2 q3 q4 q)
def kL (wi:TI) (g:TG) (tb:TS):TS:=λD σ H=>wi σ H λJ H1=>∃W:Nat->Nat->St->Hp->Prop,(∃m,W 0 m σ H1)/\∀i m σ H,W i m σ H ->
 (J.stop i H/\D.nx σ H)\/(J.go i H/\∃N:St->Hp->Prop,(∀σ' H',N σ' H'->∃m',m'<m/\W (i+1) m' σ' H')/\∀x H',J.yld i H x H'->g x σ H' λσ2 H2=>tb { D with nx:=N,ct:=N,bk:=D.nx } σ2 H2)
def wJ (fp:List Addr) (h:Heap):List (Addr×Obj):=fp.filterMap λb=>(h.get? b).map λo=>(b,o)
theorem iV {fp:List Addr}{h:Heap}{b:Addr}{o:Obj}(hb:b∈fp)(e:h.get? b=some o):(b,o)∈wJ fp h:=qb.mpr ⟨b,hb,by rw[e];rfl⟩
theorem aCV {fp:List Addr}{h:Heap}{p:Addr×Obj}(hp:p∈wJ fp h):p.1∈fp/\h.get? p.1=some p.2:=by
 obtain⟨b,hb,e⟩:=qb.mp hp
 cases q:h.get? b with
 |none=>rw[q] at e;cases e
 |some o=>
  rw[q] at e
  have e':(b,o)=p:=az e
  subst e'
  exact⟨hb,q⟩
theorem Inv.pinned {pins:List (Addr×Obj)}{σ:St}{H:Hp}{s:Shared}{fp:List Addr}(I:Inv X pins σ H s)(hf:∀b∈fp,FpOk X pins H b)(ho:∀b∈fp,∃o,s.heap.get? b=some o/\∀v,o.data ≠ .cell v):Inv X (pins++wJ fp s.heap) σ H s:=
 I.pins_of λp hp=>(du.mp hp).elim (λz=>I.pin p (di _ z)) λz=>by
  obtain⟨hb,e⟩:=aCV z
  obtain⟨f0,f1,f2,_⟩:=hf p.1 hb
  obtain⟨o,e',d⟩:=ho p.1 hb
  rw[e] at e';cases e'
  exact⟨e,f0,f1,f2,d⟩
theorem Inv.unpinned {pins pl:List (Addr×Obj)}{σ:St}{H:Hp}{s:Shared}(I:Inv X (pins++pl) σ H s):Inv X pins σ H s:=I.pins_of λp hp=>I.pin p (di _ (j7 _ hp))
theorem dG {iter:Expr}{body:List Stmt}{wi:TI}{g:TG}{tb:TS}{pos:Pos}(hp:PassesOwn (model X.prog X.w) X.A X.env X.xe)(hc:X.calm=true)(hi:PI X tg iter wi)(hg:PG X tg g)(hb:PSs X body tb)
  (hs:∀x,ni iter X.env x=pure x:=by intro _;rfl):PS X (.For tg iter body [] pos) (kL wi g tb):=by
 intro pins s σ H D I h
 refine wpAny_For (thn (hi pins s σ H _ I h) λv s1 h1=>thn h1 λitv s2 h2=>?_) hs
 obtain⟨it,fp,tn,J,H2,e,I2,T,st2,f2,W,⟨m0,w0⟩,turn⟩:=h2
 subst e
 have stat:∀{H':Hp},(∀b∈fp,H' b=none)->∀b∈fp,FpOk X pins H' b:=λhn b hb=>⟨hn b hb,(f2 b hb).2⟩
 refine codeAny_forLoop_any (λn s'=>∃i σ' H',Inv X pins σ' H' s'/\tn i s'.heap/\(∀b∈fp,H' b=none)/\W i n σ' H') ?_ m0 ⟨0,σ,H2,I2,st2,λb hb=>(f2 b hb).1,w0⟩
 rintro n s3 ⟨i,σ3,H3,I3,st3,fr3,w3⟩
 rcases turn i n σ3 H3 w3 with⟨stop,qn⟩ | ⟨go,N,hN,step⟩
 ·refine lr hp (thn (T.done X rfl rfl rfl hc i pins s3 σ3 H3 X.xe I3 (stat fr3) st3 stop) λr s4 ⟨hr,I4⟩=>?_)
  subst hr
  exact xl ⟨σ3,H3,I4,qn⟩
 ·refine lr hp (thn (T.item X rfl rfl rfl hc i pins s3 σ3 H3 X.xe I3 (stat fr3) st3 go) λr s4 ⟨u,hr,h4⟩=>?_)
  subst hr
  refine lr hp (thn h4 λ_ s5 ⟨x,H5,I5,r5,y5,st5,fr5⟩=>?_)
  have I5':=I5.pinned (stat fr5) (T.obj _ _ st5)
  refine lr hp (thn (hg _ s5 σ3 H5 x u _ I5' r5 (step x H5 y5)) λ_ s6 ⟨σ6,H6,I6,q6⟩=>?_)
  refine lr hp (thn (hb _ s6 σ6 H6 _ I6 q6) λf s7 q7=>?_)
  have again:∀{σ7:St}{H7:Hp},Inv X (pins++wJ fp s5.heap) σ7 H7 s7->N σ7 H7->∃m,m<n/\∃i σ' H',Inv X pins σ' H' s7/\tn i s7.heap/\(∀b∈fp,H' b=none)/\W i m σ' H':=λ{σ7 H7} I7 n7=>by
   obtain⟨m',hm,w7⟩:=hN σ7 H7 n7
   refine⟨m',hm,i+1,σ7,H7,I7.unpinned,T.keep _ _ _ st5 λb hb o e=>(I7.pin (b,o) (di _ (di _ (iV hb e)))).1,λb hb=>?_,w7⟩
   obtain⟨o,e,d⟩:=T.obj _ _ st5 b hb
   exact(I7.pin (b,o) (di _ (di _ (iV hb e)))).2.1
  cases f with
  |next=>obtain⟨σ7,H7,I7,n7⟩:=q7;exact again I7 n7
  |cont=>obtain⟨σ7,H7,I7,n7⟩:=q7;exact again I7 n7
  |brk=>obtain⟨σ7,H7,I7,q7⟩:=q7;exact⟨σ7,H7,I7.unpinned,q7⟩
  |ret v=>obtain⟨x7,σ7,H7,I7,r7,q7⟩:=q7;exact⟨x7,σ7,H7,I7.unpinned,r7,q7⟩
end
theorem bJ {K:ae}{a:Addr}{xs:List V}{g:TG}{tb:TS}{D:mB}{σ:St}{H:Hp}(Pv:Nat->St->Hp->Prop)(h0:Pv 0 σ H)(hl:∀i σ H,i<=xs.length->Pv i σ H->SqL K H a xs)
  (hs:∀i x σ H,xs[i]?=some x->Pv i σ H->g x σ H λσ2 H2=>tb { D with nx:=Pv (i+1),ct:=Pv (i+1),bk:=D.nx } σ2 H2) (hd:∀σ H,Pv xs.length σ H->D.nx σ H) :
  ∃W:Nat->Nat->St->Hp->Prop,(∃m,W 0 m σ H)/\∀i m σ H,W i m σ H ->
   ((Itl K a).stop i H/\D.nx σ H)\/((Itl K a).go i H/\∃N:St->Hp->Prop,(∀σ' H',N σ' H'->∃m',m'<m/\W (i+1) m' σ' H')/\∀x H',(Itl K a).yld i H x H'->g x σ H' λσ2 H2=>tb { D with nx:=N,ct:=N,bk:=D.nx } σ2 H2):=by
 refine⟨λi m σ H=>m=xs.length - i/\i<=xs.length/\Pv i σ H,⟨xs.length,by simp,av _,h0⟩,?_⟩
 rintro i m σ H ⟨rfl,hi,p⟩
 have q:=hl i σ H hi p
 by_cases hlt:i<xs.length
 ·refine .inr ⟨⟨xs,xs[i],q,by simp[hlt]⟩,Pv (i+1),λσ' H' p'=>⟨xs.length - (i+1),by omega,rfl,hlt,p'⟩,λx H' y=>?_⟩
  obtain⟨e,y⟩:=y
  subst e
  exact hs i x σ _ (y xs q) p
 ·have e:i=xs.length:=by omega
  subst e
  exact .inl ⟨⟨xs,q,ba _⟩,hd σ H p⟩
theorem aBT {K:ae}{a:Addr}{xs:List V}{g:TG}{tb:TS}{D:mB}{σ:St}{H:Hp}(Pv:Nat->St->Hp->Prop)(h0:Pv 0 σ H)(hl:∀i σ H,i<=xs.length->Pv i σ H->SqT K H a xs)
  (hs:∀i x σ H,xs[i]?=some x->Pv i σ H->g x σ H λσ2 H2=>tb { D with nx:=Pv (i+1),ct:=Pv (i+1),bk:=D.nx } σ2 H2) (hd:∀σ H,Pv xs.length σ H->D.nx σ H) :
  ∃W:Nat->Nat->St->Hp->Prop,(∃m,W 0 m σ H)/\∀i m σ H,W i m σ H ->
   ((Itt K a).stop i H/\D.nx σ H)\/((Itt K a).go i H/\∃N:St->Hp->Prop,(∀σ' H',N σ' H'->∃m',m'<m/\W (i+1) m' σ' H')/\∀x H',(Itt K a).yld i H x H'->g x σ H' λσ2 H2=>tb { D with nx:=N,ct:=N,bk:=D.nx } σ2 H2):=by
 refine⟨λi m σ H=>m=xs.length - i/\i<=xs.length/\Pv i σ H,⟨xs.length,by simp,av _,h0⟩,?_⟩
 rintro i m σ H ⟨rfl,hi,p⟩
 have q:=hl i σ H hi p
 by_cases hlt:i<xs.length
 ·refine .inr ⟨⟨xs,xs[i],q,by simp[hlt]⟩,Pv (i+1),λσ' H' p'=>⟨xs.length - (i+1),by omega,rfl,hlt,p'⟩,λx H' y=>?_⟩
  obtain⟨e,y⟩:=y
  subst e
  exact hs i x σ _ (y xs q) p
 ·have e:i=xs.length:=by omega
  subst e
  exact .inl ⟨⟨xs,q,ba _⟩,hd σ H p⟩
theorem cZ {lo:Int}{n:Nat}{g:TG}{tb:TS}{D:mB}{σ:St}{H:Hp}(Pv:Nat->St->Hp->Prop)(h0:Pv 0 σ H)
  (hs:∀i σ H,i<n->Pv i σ H->g (.int (lo+i)) σ H λσ2 H2=>tb { D with nx:=Pv (i+1),ct:=Pv (i+1),bk:=D.nx } σ2 H2) (hd:∀σ H,Pv n σ H->D.nx σ H) :
  ∃W:Nat->Nat->St->Hp->Prop,(∃m,W 0 m σ H)/\∀i m σ H,W i m σ H ->
   ((Itr lo n).stop i H/\D.nx σ H)\/((Itr lo n).go i H/\∃N:St->Hp->Prop,(∀σ' H',N σ' H'->∃m',m'<m/\W (i+1) m' σ' H')/\∀x H',(Itr lo n).yld i H x H'->g x σ H' λσ2 H2=>tb { D with nx:=N,ct:=N,bk:=D.nx } σ2 H2):=by
 refine⟨λi m σ H=>m=n - i/\i<=n/\Pv i σ H,⟨n,by simp,av _,h0⟩,?_⟩
 rintro i m σ H ⟨rfl,hi,p⟩
 by_cases hlt:i<n
 ·refine .inr ⟨hlt,Pv (i+1),λσ' H' p'=>⟨n - (i+1),by omega,rfl,hlt,p'⟩,λx H' y=>?_⟩
  obtain⟨e,y⟩:=y
  subst e y
  exact hs i σ _ hlt p
 ·have e:i=n:=by omega
  subst e
  exact .inl ⟨ba _,hd σ H p⟩
abbrev R2:=V->V->Hp->VK->Prop
def OpR (X:Cx) (f:Value->Value->Sem Value) (r:R2):Prop:=
 ∀(pins:List (Addr×Obj)) (s:Shared) (σ:St) (H:Hp) (x y:V) (v u:Value) (Q:VK),Inv X pins σ H s->RelV x v->RelV y u->r x y H Q ->
  wpAny (model X.prog X.w) X.A (f v u) (EP X pins σ Q) X.xe s
def UnR (X:Cx) (f:Value->Sem Value) (r:V->Hp->VK->Prop):Prop:=
 ∀(pins:List (Addr×Obj)) (s:Shared) (σ:St) (H:Hp) (x:V) (v:Value) (Q:VK),Inv X pins σ H s->RelV x v->r x H Q ->
  wpAny (model X.prog X.w) X.A (f v) (EP X pins σ Q) X.xe s
def CallR (X:Cx) (f:Value) (r:List V->Hp->VK->Prop):Prop:=
 ∀(pins:List (Addr×Obj)) (s:Shared) (σ:St) (H:Hp) (xs:List V) (us:List Value) (Q:VK),Inv X pins σ H s->Vals xs us->r xs H Q ->
  wpAny (model X.prog X.w) X.A (call f us) (EP X pins σ Q) X.xe s
def tOp (r:R2) (ta tb:TE):TE:=λσ H Q=>ta σ H λx H1=>tb σ H1 λy H2=>r x y H2 Q
def tUn (r:V->Hp->VK->Prop) (ta:TE):TE:=λσ H Q=>ta σ H λx H1=>r x H1 Q
def rI (C:Int->Int->Prop) (g:Int->Int->V):R2:=λx y H Q=>∃i j,x = .int i/\y = .int j/\C i j/\Q (g i j) H
inductive aLk (g:Int->Int->V) (x y:V) (H:Hp) (Q:VK):Prop
 |mk (i j:Int) (hx:x = .int i) (hy:y = .int j) (q:Q (g i j) H):aLk g x y H Q
def rI0 (g:Int->Int->V):R2:=λx y H Q=>aLk g x y H Q
def rU (g:Int->V):V->Hp->VK->Prop:=λx H Q=>∃i,x = .int i/\Q (g i) H
section
variable {X:Cx}{a b c:Expr}{ta tb tc:TE}{pos:Pos}
theorem aKM (ha:PE X a ta)(hb:PE X b tb){pins:List (Addr×Obj)}{s:Shared}{σ:St}{H:Hp}{R:V->V->Hp->Prop}(I:Inv X pins σ H s)
  (h:ta σ H λx H1=>tb σ H1 λy H2=>R x y H2) {Q:Value->Shared->Prop}{f:Value->Value->Sem Value}
  (hf:∀v u s2 x y H2,Inv X pins σ H2 s2->RelV x v->RelV y u->R x y H2->wpAny (model X.prog X.w) X.A (f v u) Q X.xe s2) :
  wpAny (model X.prog X.w) X.A (eval a X.env) (λv s₁=>wpAny (model X.prog X.w) X.A (eval b X.env) (λu s₂=>wpAny (model X.prog X.w) X.A (f v u) Q X.xe s₂) X.xe s₁) X.xe s:=by
 refine thn (ha pins s σ H _ I h) λv s1 ⟨x,H1,I1,r1,q1⟩=>?_
 refine thn (hb pins s1 σ H1 _ I1 q1) λu s2 ⟨y,H2,I2,r2,q2⟩=>?_
 exact hf v u s2 x y H2 I2 r1 r2 q2
theorem bD {op:Operator}{r:R2}(ho:OpR X (lh op) r)(ha:PE X a ta)(hb:PE X b tb):PE X (.BinOp a op b pos) (tOp r ta tb):=by
 intro pins s σ H Q I h
 exact wpAny_BinOp (aKM ha hb I h λv u s2 x y H2 I2 rx ry q=>ho pins s2 σ H2 x y v u Q I2 rx ry q)
theorem jN {op:UnaryOp}{r:V->Hp->VK->Prop}(ho:UnR X (unaryOp op) r)(ha:PE X a ta):PE X (.UnaryOp op a pos) (tUn r ta):=by
 intro pins s σ H Q I h
 exact UnaryOp_ (thn (ha pins s σ H _ I h) λv s1 ⟨x,H1,I1,r1,q1⟩=>ho pins s1 σ H1 x v Q I1 r1 q1)
theorem opI {f:Value->Value->Sem Value}{C:Int->Int->Prop}{g:Int->Int->Int}
  (rule:∀(i j:Int) (t u:Tok) (s:Shared) (Q:Value->Shared->Prop) (E:Value->Shared->Prop),C i j->Q (.int (g i j) s.toks) { s with toks:=s.toks+1 }->wpAny (model X.prog X.w) X.A (f (.int i t) (.int j u)) Q E s) :
  OpR X f (rI C λi j => .int (g i j)):=by
 intro pins s σ H x y v u Q I rx ry h
 obtain⟨i,j,rfl,rfl,hc,q⟩:=h
 obtain⟨t,rfl⟩:=rx
 obtain⟨t',rfl⟩:=ry
 exact rule i j t t' s _ _ hc ⟨.int (g i j),H,I.tok _,⟨_,rfl⟩,q⟩
theorem aLm {f:Value->Value->Sem Value}{g:Int->Int->Int}
  (rule:∀(i j:Int) (t u:Tok) (s:Shared) (Q:Value->Shared->Prop) (E:Value->Shared->Prop),Q (.int (g i j) s.toks) { s with toks:=s.toks+1 }->wpAny (model X.prog X.w) X.A (f (.int i t) (.int j u)) Q E s) :
  OpR X f (rI0 λi j => .int (g i j)):=by
 intro pins s σ H x y v u Q I rx ry h
 obtain⟨i,j,rfl,rfl,q⟩:=h
 obtain⟨t,rfl⟩:=rx
 obtain⟨t',rfl⟩:=ry
 exact rule i j t t' s _ _ ⟨.int (g i j),H,I.tok _,⟨_,rfl⟩,q⟩
theorem aJj {f:Value->Value->Sem Value}{g:Int->Int->Bool}
  (rule:∀(i j:Int) (t u:Tok) (s:Shared) (Q:Value->Shared->Prop) (E:Value->Shared->Prop),Q (.bool (g i j)) s->wpAny (model X.prog X.w) X.A (f (.int i t) (.int j u)) Q E s) :
  OpR X f (rI0 λi j => .bl (g i j)):=by
 intro pins s σ H x y v u Q I rx ry h
 obtain⟨i,j,rfl,rfl,q⟩:=h
 obtain⟨t,rfl⟩:=rx
 obtain⟨t',rfl⟩:=ry
 exact rule i j t t' s _ _ ⟨.bl (g i j),H,I,rfl,q⟩
def aKS (i j:Int):Prop:=0<=j/\j<=1000000/\i.natAbs<2 ^ 64
def CMul (i j:Int):Prop:=(-(2 ^ 64)<i/\i<2 ^ 64)\/(-(2 ^ 64)<j/\j<2 ^ 64)
theorem CMul.ok {i j:Int}(h:CMul i j):IntMulOk i j:=by
 rcases h with⟨h1,h2⟩ | ⟨h1,h2⟩
 ·exact .of_left (intBits_le_64 h1 h2)
 ·exact .of_right (intBits_le_64 h1 h2)
theorem aIS:OpR X (lh .Add) (rI0 λi j => .int (i+j)):=aLm λ_ _ _ _ _ _ _ q=>add_int q
theorem oM:OpR X (lh .Sub) (rI0 λi j => .int (i - j)):=aLm λ_ _ _ _ _ _ _ q=>sub_int q
theorem aIK:OpR X (lh .Mult) (rI CMul λi j => .int (i*j)):=opI λ_ _ _ _ _ _ _ hc q=>mul_int q hc.ok
theorem jC:OpR X (lh .Mod) (rI (λ_ j=>0<j) λi j => .int (i % j)):=opI λi j _ _ _ _ _ hc q=>by
 have h1:(0:Int)<j:=hc
 exact mod_int' (by omega) (by rw[Int.fmod_eq_emod_of_nonneg i (by omega)];exact q)
theorem aFq:OpR X (lh .Pow) (rI aKS λi j => .int (i ^ j.toNat)):=opI λ_ _ _ _ _ _ _ hc q=>pow_int_small hc.1 hc.2.1 hc.2.2 q
theorem unI {f:Value->Sem Value}{g:Int->Int}
  (rule:∀(i:Int) (t:Tok) (s:Shared) (Q:Value->Shared->Prop) (E:Value->Shared->Prop),Q (.int (g i) s.toks) { s with toks:=s.toks+1 }->wpAny (model X.prog X.w) X.A (f (.int i t)) Q E s) :
  UnR X f (rU λi => .int (g i)):=by
 intro pins s σ H x v Q I rx h
 obtain⟨i,rfl,q⟩:=h
 obtain⟨t,rfl⟩:=rx
 exact rule i t s _ _ ⟨.int (g i),H,I.tok _,⟨_,rfl⟩,q⟩
theorem fO:UnR X (unaryOp .USub) (rU λi => .int (-i)):=unI λ_ _ _ _ _ q=>neg_int q
end
section
variable {X:Cx}{a b c:Expr}{ta tb tc:TE}{pos:Pos}
theorem aAb {pins:List (Addr×Obj)}{σ:St}{H:Hp}{s:Shared}{Q:VK}{k k':Bool}(I:Inv X pins σ H s)(q:Q (.bl k) H)(e:k=k'):EP X pins σ Q (.bool k') s:=by
 subst e
 exact⟨.bl k,H,I,rfl,q⟩
theorem fK:OpR X (gj .Lt) (rI0 λi j => .bl (decide (i<j))):=aJj λ_ _ _ _ _ _ _ q=>lt_int q
theorem aGj:OpR X (gj .LtE) (rI0 λi j => .bl (decide (i<=j))):=aJj λ_ _ _ _ _ _ _ q=>le_int q
theorem oT:OpR X (gj .Gt) (rI0 λi j => .bl (decide (j<i))):=aJj λ_ _ _ _ _ _ _ q=>gt_int q
theorem aHN:OpR X (gj .GtE) (rI0 λi j => .bl (decide (j<=i))):=aJj λ_ _ _ _ _ _ _ q=>ge_int q
theorem aHY:OpR X (gj .Is) (λx y H Q=>y = .non/\Q (.bl (decide (x = .non))) H):=by
 intro pins s σ H x y v u Q I rx ry h
 obtain⟨rfl,q⟩:=h
 cases ry
 refine is_none_gen (aAb I q ?_)
 cases x <;> first
  | (cases rx;rfl)
  | (obtain⟨t,rfl⟩:=rx;rfl)
theorem aGq:OpR X (gj .IsNot) (λx y H Q=>y = .non/\Q (.bl (!decide (x = .non))) H):=by
 intro pins s σ H x y v u Q I rx ry h
 obtain⟨rfl,q⟩:=h
 cases ry
 refine isnot_none_gen (aAb I q ?_)
 cases x <;> first
  | (cases rx;rfl)
  | (obtain⟨t,rfl⟩:=rx;rfl)
theorem OpR.or {f:Value->Value->Sem Value}{r r':R2}(h:OpR X f r)(h':OpR X f r'):OpR X f (λx y H Q=>r x y H Q\/r' x y H Q):=by
 intro pins s σ H x y v u Q I rx ry q
 rcases q with q | q
 ·exact h pins s σ H x y v u Q I rx ry q
 ·exact h' pins s σ H x y v u Q I rx ry q
theorem aW (b:Expr){op:CmpOp}(h:op ≠ .In:=by decide)(h2:op ≠ .NotIn:=by decide):we op b=false:=by
 have e1:(op == CmpOp.In)=false:=by cases op <;> first | rfl | exact absurd rfl h
 have e2:(op == CmpOp.NotIn)=false:=by cases op <;> first | rfl | exact absurd rfl h2
 cases b <;> simp[we,e1,e2]
theorem cG {op:CmpOp}{r:R2}(ho:OpR X (gj op) r)(ha:PE X a ta)(hb:PE X b tb)(hm:we op b=false):PE X (.Compare a [op] [b] pos) (tOp r ta tb):=by
 intro pins s σ H Q I h
 exact wpAny_Compare1 (aKM ha hb I h λv u s2 x y H2 I2 rx ry q=>ho pins s2 σ H2 x y v u Q I2 rx ry q) hm
inductive TBP (x:V) (H:Hp) (Q:Bool->Hp->Prop):Prop
 |mk (k:Bool) (e:x = .bl k) (q:Q k H):TBP x H Q
def bH (t:TE):TT:=λσ H Q=>t σ H λx H'=>TBP x H' Q
theorem aX {op:CmpOp}{r:R2}(ho:OpR X (gj op) r)(ha:PE X a ta)(hb:PE X b tb)(hm:we op b=false):PT X (.Compare a [op] [b] pos) (bH (tOp r ta tb)):=by
 intro pins s σ H Q I h
 refine wpAny_isTrue_Compare1 (thn (ha pins s σ H _ I h) λv s1 ⟨x,H1,I1,r1,q1⟩=>thn (hb pins s1 σ H1 _ I1 q1) λu s2 ⟨y,H2,I2,r2,q2⟩=>
  thn (ho pins s2 σ H2 x y v u _ I2 r1 r2 q2) λc s3 ⟨z,H3,I3,r3,k,e,q3⟩=>?_) hm
 subst e
 cases r3
 exact gm ⟨H3,I3,q3⟩
def zX (r r':R2) (ta tb tc:TE):TE:=λσ H Q=>ta σ H λx H1=>tb σ H1 λy H2=>r x y H2 λz H3=>∃k,z = .bl k /\
 (if k=true then tc σ H3 λw' H4=>r' y w' H4 Q else Q (.bl false) H3)
theorem uF {op op':CmpOp}{r r':R2}(ho:OpR X (gj op) r)(ho':OpR X (gj op') r')(ha:PE X a ta)(hb:PE X b tb)(hc:PE X c tc)
  (hm:lastMarks [op,op'] [b,c]=false:=by with_unfolding_all rfl):PT X (.Compare a [op,op'] [b,c] pos) (bH (zX r r' ta tb tc)):=by
 intro pins s σ H Q I h
 refine isTrue_chain (thn (ha pins s σ H _ I h) λv s1 ⟨x,H1,I1,r1,q1⟩=>test_link (thn (hb pins s1 σ H1 _ I1 q1) λu s2 ⟨y,H2,I2,r2,q2⟩=>
  thn (ho pins s2 σ H2 x y v u _ I2 r1 r2 q2) λd s3 ⟨z,H3,I3,r3,k,e,q3⟩=>?_)) hm
 subst e
 cases r3
 refine gm ?_
 cases k with
 |false=>
  obtain⟨k',e',q'⟩:=q3
  cases e'
  exact ite_ff ⟨H3,I3,q'⟩
 |true=>
  refine ite_tt (test_last (thn (hc pins s3 σ H3 _ I3 q3) λw' s4 ⟨z',H4,I4,r4,q4⟩=>thn (ho' pins s4 σ H4 y z' u w' _ I4 r2 r4 q4) λd' s5 ⟨z2,H5,I5,r5,k2,e2,q5⟩=>?_))
  subst e2
  cases r5
  exact gm ⟨H5,I5,q5⟩
theorem aAy:(bx:Nat)<2 ^ 63:=by rw[jt];decide
theorem aBl:OpR X (lh .Add) (λx y H Q=>∃i j,x = .str i/\y = .str j/\i.length+j.length<=bx/\Q (.str (i++j)) H):=by
 intro pins s σ H x y v u Q I rx ry h
 obtain⟨i,j,rfl,rfl,hz,q⟩:=h
 obtain⟨t,rfl⟩:=rx
 obtain⟨t',rfl⟩:=ry
 exact add_str (λt' tk=>⟨.str (i++j),H,I.tok _,⟨_,rfl⟩,q⟩) hz
theorem aAX {x:V}{us:List Value}(r:Vals [x] us):∃u,us=[u]/\RelV x u:=by
 cases r with
 |cons r1 r2=>cases r2;exact⟨_,rfl,r1⟩
theorem aIf {x y:V}{us:List Value}(r:Vals [x,y] us):∃u w',us=[u,w']/\RelV x u/\RelV y w':=by
 cases r with
 |cons r1 r2=>
  cases r2 with
  |cons r3 r4=>cases r4;exact⟨_,_,rfl,r1,r3⟩
theorem aEs:CallR X (.builtin "abs") (λxs H Q=>∃i,xs=[.int i]/\Q (.int (if i<0 then -i else i)) H):=by
 intro pins s σ H xs us Q I r h
 obtain⟨i,rfl,q⟩:=h
 obtain⟨u,rfl,t,rfl⟩:=aAX r
 exact call_abs_int λu tk=>⟨.int (if i<0 then -i else i),H,I.tok _,⟨_,rfl⟩,q⟩
theorem aDb (hc:X.calm=true):CallR X (.builtin "min") (λxs H Q=>∃i j,xs=[.int i, .int j]/\Q (.int (if j<i then j else i)) H):=by
 intro pins s σ H xs us Q I r h
 obtain⟨i,j,rfl,q⟩:=h
 obtain⟨u,w',rfl,⟨t,rfl⟩,⟨t',rfl⟩⟩:=aIf r
 refine min_two_ints (I.ok.hd hc) λh' tk k=>⟨_,H,I.kept k,?_,q⟩
 by_cases hj:j<i
 ·rw[if_pos hj,if_pos hj];exact⟨_,rfl⟩
 ·rw[if_neg hj,if_neg hj];exact⟨_,rfl⟩
end
section
variable {prog:Program}{w:World}{A:Around}{E:Value->Shared->Prop}{s:Shared}{K:ae}{x dx C f:Addr}{mA:Str->Option Value}{name:Str}{v:Value}
end
section
variable {P:Program}{w:World}{H H':Hp}{h h':Heap}{a C dx:Addr}{fs fs':List (Str×V)}
end
section
variable {X:Cx}{pins:List (Addr×Obj)}{σ:St}{H:Hp}{s:Shared}{a C dx:Addr}{fs:List (Str×V)}{f:Str}{v:V}{A:Around}{E:Value->Shared->Prop}
end
section
variable {X:Cx}{o e value:Expr}{f:Str}{pos pos' tpos:Pos}{ta tv:TE}
end
section
variable {X:Cx}{pins:List (Addr×Obj)}{σ:St}{H:Hp}{s:Shared}{A:Around}{E:Value->Shared->Prop}{Q:Value->Shared->Prop}{c:Value}{b:Bool}
end
structure Room (k:Nat)(A:Around):Prop where
 hd:A.handled=none
 dp:A.depth+3*k+5<recursionLimit
 un:A.units+16*k+200<cLine
 gd:A.guards=some []
theorem Room.mono {j k:Nat}{A:Around}(r:Room k A)(h:j<=k):Room j A:=⟨r.hd,by have:=r.dp;omega,by have:=r.un;omega,r.gd⟩
theorem Room.deeper {k:Nat}{A:Around}(r:Room (k+1) A)(env:Env):Room k (A.deeper env):=
 ⟨r.hd,by have:=r.dp;show A.depth+1+3*k+5<_;omega,by have:=r.un;show A.units+3+16*k+200<_;omega,r.gd⟩
theorem Room.depth {k:Nat}{A:Around}(r:Room k A):A.depth<recursionLimit:=by have:=r.dp;omega
def aQ:TA:=λ_ H Q=>Q [] H
def aC (ta:TE) (tr:TA):TA:=λσ H Q=>ta σ H λx H1=>tr σ H1 λxs H2=>Q (x :: xs) H2
section
variable {X:Cx}{e:Expr}{es:List Expr}{te:TE}{t:TA}{pos:Pos}
theorem aE:PA X [] aQ:=λ_ _ _ _ H Q I h=>Calls.spliced_nil ⟨[],H,I, .nil,h⟩
theorem cK (ha:PE X e te)(hr:PA X es t)(hs:fi (e :: es) X.env=(false,eval e X.env) :: fi es X.env:=by rfl):PA X (e :: es) (aC te t):=by
 intro pos pins s σ H Q I h
 rw[hs]
 show wpAny _ _ (spliced ((false,eval e X.env) :: vo pos (fi es X.env))) _ _ s
 refine Calls.spliced_cons (thn (ha pins s σ H _ I h) λu s1 ⟨x,H1,I1,r1,q1⟩=>?_)
 exact thn (hr pos pins s1 σ H1 _ I1 q1) λus s2 ⟨xs,H2,I2,r2,q2⟩=>⟨x :: xs,H2,I2, .cons r1 r2,q2⟩
def lS (t:TA):TE:=λσ H Q=>t σ H λxs H1=>xs.length<=bx/\∀p,H1 p=none->Q (.ref p) (upd H1 p (.tup xs))
def aAP (t:TA):TE:=λσ H Q=>t σ H λxs H1=>xs.length<=bx/\∀p,H1 p=none->Q (.ref p) (upd H1 p (.lst xs))
theorem dF {x1}(h:PA X es t):PE X (.Tuple es x1 pos) (lS t):=by
 intro pins s σ H Q I hq
 refine wpAny_Tuple_spliced (thn (h pos pins s σ H _ I hq) λus s1 ⟨xs,H1,I1,r,z,q⟩=>⟨by rw[<- r.length];exact z,?_⟩)
 have hf:H1 s1.heap.objs.size=none:=I1.hok.fresh (ba _)
 refine⟨.ref s1.heap.objs.size,upd H1 s1.heap.objs.size (.tup xs),I1.laid (t':=s1.toks) (λb u e=>aj _ e) (ba _) ?_,rfl,q _ hf⟩
 exact⟨z,us,r,TupN.new _ _⟩
theorem gJ (h:PA X es t):PE X (.List es pos) (aAP t):=by
 intro pins s σ H Q I hq
 refine wpAny_List_spliced (thn (h pos pins s σ H _ I hq) λus s1 ⟨xs,H1,I1,r,z,q⟩=>⟨by rw[<- r.length];exact z,?_⟩)
 have hf:H1 s1.heap.objs.size=none:=I1.hok.fresh (ba _)
 refine⟨.ref s1.heap.objs.size,upd H1 s1.heap.objs.size (.lst xs),I1.laid (t':=s1.toks) (λb u e=>aj _ e) (ba _) ?_,rfl,q _ hf⟩
 exact⟨z,us,0,r,ay _ rfl⟩
end
abbrev Sp:=List V->Hp->VK->XK->Prop
abbrev CXT:=List Env->Hp->Shared->XK->Value->Shared->Prop
structure aJh (P:Program)(w:World)(K:ae)(mg:Str->Option Value)(base:Heap)(A:Around)(outer:List Env)(s:Shared)(H:Hp):Prop where
 frames:A.frames=some outer
 mod:Mod K mg base
 bs:∀b o,base.get? b=some o->s.heap.get? b=some o/\H b=none
 bsz:base.objs.size<=s.heap.objs.size
 funs:s.heap.FunFrames base outer
 frf:∀b∈frs outer,H b=none
 hok:HOk P w H s.heap
 bare:wa s.gens
def CE (outer:List Env) (P:Program) (w:World) (H:Hp) (s:Shared) (Q:VK) (u:Value) (s':Shared):Prop:=
 ∃v H',s'.os=s.os/\wa s'.gens/\Un (frs outer) [] H H' s.heap s'.heap/\HOk P w H' s'.heap/\RelV v u/\Q v H'
def CR (CX:CXT) (outer:List Env) (P:Program) (w:World) (H:Hp) (s:Shared) (Q:VK) (E:XK) (r:w6) (s':Shared):Prop:=
 match r with
 | .ok (.ret u)=>CE outer P w H s Q u s'
 | .ok _=>False
 | .error e=>CX outer H s E e s'
structure FnOk (P:Program)(w:World)(K:ae)(mg:Str->Option Value)(base:Heap)(CX:CXT)(k:Nat)(f:Addr)(fd:FuncData)(ps:List Str)(sp:Sp):Prop where
 len:∀vs H Q E,sp vs H Q E->vs.length=ps.length
 run:∀(A:Around) (outer:List Env) (s:Shared) (H:Hp) (args:Args) (us:List Value) (vs:List V) (Q:VK) (E:XK),Room k A->aJh P w K mg base A outer s H->Ai s fd args (ps.zip us)->Vals vs us->sp vs H Q E ->
  wg (model P w) A (.call (.ref f) args) (CR CX outer P w H s Q E) s
theorem FnOk.mono {P:Program}{w:World}{K:ae}{mg:Str->Option Value}{base:Heap}{CX:CXT}{j k:Nat}{f:Addr}{fd:FuncData}{ps:List Str}{sp:Sp}(F:FnOk P w K mg base CX j f fd ps sp)(h:j<=k) :
  FnOk P w K mg base CX k f fd ps sp:=⟨F.len,λA outer s H args us vs Q E hr=>F.run A outer s H args us vs Q E (hr.mono h)⟩
section
variable {X:Cx}{pins:List (Addr×Obj)}{σ:St}{H:Hp}{s s':Shared}
theorem Inv.env0 (I:Inv X pins σ H s):aJh X.prog X.w X.K X.mg X.base X.A X.stack s H:=
 ⟨I.ok.frames,I.ok.mod,I.bs,c9 I.ok.bsz I.sz,I.stack,I.stkFree,I.hok,I.bare⟩
theorem Inv.after {Q:VK}{u:Value}(I:Inv X pins σ H s)(h:CE X.stack X.prog X.w H s Q u s'):EP X pins σ Q u s':=by
 obtain⟨v,H',os,bare,un,hok,r,q⟩:=h
 obtain⟨hh,g,d,t,os'⟩:=s'
 obtain rfl:os'=s.os:=os
 exact⟨v,H',I.call (h':=hh) (g':=g) (d':=d) (t':=t) (ch:=[]) un hok bare (λb z=>absurd z (by simp)),r,q⟩
end
def aY (sp:Sp) (dvs:List V) (E:XK) (t:TA):TE:=λσ H Q=>t σ H λvs H1=>sp (vs++dvs) H1 Q E
def Binds (K:ae) (fd:FuncData) (ps:List Str) (ds:List Value):Prop:=
 ∀(s:Shared) (us:List Value),K.In s.heap->(us++ds).length=ps.length->Ai s fd ⟨us,[]⟩ (ps.zip (us++ds))
theorem Binds.all {K:ae}{fd:FuncData}{ps:List Str}(h:∀us:List Value,us.length=ps.length->yr fd ⟨us,[]⟩=pure (ps.zip us)):Binds K fd ps []:=λs us _ hl=>by
 rw[gu] at hl ⊢
 exact .of_eq (h us hl)
def qX (CX:CXT) (X:Cx) (E:XK):Prop:=∀(pins:List (Addr×Obj)) (σ:St) (H:Hp) (s:Shared) (e:Value) (s':Shared),Inv X pins σ H s->CX X.stack H s E e s'->X.xe e s'
section
variable {X:Cx}{CX:CXT}{k:Nat}{f C:Addr}{fd:FuncData}{ps:List Str}{sp:Sp}{dvs:List V}{ds:List Value}{E:XK}{x m:Str}{p pos apos:Pos}{e o:Expr}{es:List Expr}{ta:TE}{t:TA}
theorem aIp {pins:List (Addr×Obj)}{σ:St}{H:Hp}{s:Shared}{Q:VK}{us:List Value}{vs:List V}(F:FnOk X.prog X.w X.K X.mg X.base CX k f fd ps sp)(hr:Room k X.A)(hb:Binds X.K fd ps ds)(hd:Vals dvs ds)(hx:qX CX X E)
  (I:Inv X pins σ H s) (r:Vals vs us) (h:sp (vs++dvs) H Q E):wpAny (model X.prog X.w) X.A (call (.ref f) us) (EP X pins σ Q) X.xe s:=by
 have r2:Vals (vs++dvs) (us++ds):=r.append hd
 have hl:(us++ds).length=ps.length:=by rw[<- r2.length];exact F.len _ _ _ _ h
 refine wpAny_call (jm (F.run X.A X.stack s H ⟨us,[]⟩ (us++ds) (vs++dvs) Q E hr I.env0 (hb s us I.kIn hl) r2 h) λr s' hq=>?_)
 cases r with
 |error e=>exact hx pins σ H s e s' I hq
 |ok fl=>
  cases fl with
  |ret u=>exact I.after hq
  |next=>exact lq hq
  |brk=>exact lq hq
  |cont=>exact lq hq
theorem aCB (F:FnOk X.prog X.w X.K X.mg X.base CX k f fd ps sp)(hr:Room k X.A)(hg:Gl X x)(hm:X.mg x=some (.ref f))(hk:n5 X.K (.ref f)=true)(hb:Binds X.K fd ps ds)(hd:Vals dvs ds)(hx:qX CX X E)
  (ha:PA X (e :: es) t) (hdb:(x == ("__debug__" : Str))=false:=by decide) (he:fi (e :: es) X.env=(false,eval e X.env) :: fi es X.env:=by rfl) (hpl:(vo pos (fi es X.env)).any (·.1)=false:=by rfl) :
  PE X (.Call (.Name x p) (e :: es) [] pos) (aY sp dvs E t):=by
 intro pins s σ H Q I h
 refine uu (xY I hg hm ?_ hdb)
 refine PySem.W.callWith_K (h₀:=X.base) I.ok.mod.kin hk (thn (ha pos pins s σ H _ I h) λus s1 ⟨vs,H1,I1,r,q⟩=>⟨I1.kIn,?_⟩) he hpl
 exact aIp F hr hb hd hx I1 r q
end
section
variable {X:Cx}{CX:CXT}{k:Nat}{f C:Addr}{fd:FuncData}{ps ks:List Str}{sp:Sp}{E:XK}{x m:Str}{p pos apos kpos:Pos}{e o:Expr}{es:List Expr}{kws:List Keyword}{te ta:TE}{t tk:TA}{nm:Option Str}
variable {g:List Value->List Value->List Value}{gV:List V->List V->List V}
end
structure lE (N P:List Str)(sc:Scope):Prop where
 kind:sc.kind = .function
 co:sc.isCoroutine=false
 gen:sc.isGenerator=false
 nd:N.Nodup
 pre:N.take P.length=P
 par:∀x∈P,sc.names.lookup x=some .local\/sc.names.lookup x=some .cell
 nofree:∀y∈sc.names,y.2 ≠ .free
theorem wD {kindOf:Str->Option NameKind}{x:Str}:∀{binds:List (Str×Value)}{m:Str->Option Value},(∀v,(x,v)∉binds)->bindL kindOf binds m x=m x
 |[],_,_=>rfl
 | (n,v) :: r,m,h=>by
  unfold bindL
  rw[wD λw hw=>h w (bf _ hw)]
  split
  ·have:x≠n:=by rintro rfl;exact h v bp
   simp[this]
  ·rfl
theorem vX {kindOf:Str->Option NameKind}{x:Str}:∀{binds:List (Str×Value)}{m:Str->Option Value},(∀v,(x,v)∉binds)->bindC kindOf binds m x=m x
 |[],_,_=>rfl
 | (n,v) :: r,m,h=>by
  unfold bindC
  rw[vX λw hw=>h w (bf _ hw)]
  split
  ·rfl
  ·have:x≠n:=by rintro rfl;exact h v bp
   simp[this]
theorem wT {kindOf:Str->Option NameKind}{x:Str}{v:Value}:∀{P:List Str}{vs:List Value}{i:Nat}{m:Str->Option Value},P.Nodup->P[i]?=some x->vs[i]?=some v->kindOf x=some .local ->
  bindL kindOf (P.zip vs) m x=some v
 |[],_,_,_,_,h,_,_=>by simp at h
 |_ :: _,[],_,_,_,_,h,_=>by simp at h
 |p :: P,w :: vs,0,m,nd,h1,h2,hk=>by
  simp at h1 h2;subst h1;subst h2
  show bindL kindOf ((p,w) :: P.zip vs) m p=_
  unfold bindL
  rw[wD λv hv=>(iz.mp nd).1 (xm hv).1,if_pos hk]
  simp
 |p :: P,w :: vs,i+1,m,nd,h1,h2,hk=>by
  show bindL kindOf ((p,w) :: P.zip vs) m x=_
  unfold bindL
  exact wT (i:=i) (iz.mp nd).2 (by simpa using h1) (by simpa using h2) hk
theorem vM {kindOf:Str->Option NameKind}{x:Str}{v:Value}:∀{P:List Str}{vs:List Value}{i:Nat}{m:Str->Option Value},P.Nodup->P[i]?=some x->vs[i]?=some v->kindOf x≠some .local ->
  bindC kindOf (P.zip vs) m x=some v
 |[],_,_,_,_,h,_,_=>by simp at h
 |_ :: _,[],_,_,_,_,h,_=>by simp at h
 |p :: P,w :: vs,0,m,nd,h1,h2,hk=>by
  simp at h1 h2;subst h1;subst h2
  show bindC kindOf ((p,w) :: P.zip vs) m p=_
  unfold bindC
  rw[vX λv hv=>(iz.mp nd).1 (xm hv).1,if_neg hk]
  simp
 |p :: P,w :: vs,i+1,m,nd,h1,h2,hk=>by
  show bindC kindOf ((p,w) :: P.zip vs) m x=_
  unfold bindC
  exact vM (i:=i) (iz.mp nd).2 (by simpa using h1) (by simpa using h2) hk
def bR (N:List Str) (vs:List V):St:=vs.map some++dg (N.length - vs.length) none
def xT (CX:CXT) (P:Program) (w:World) (K:ae) (mg:Str->Option Value) (base:Heap) (N:List Str) (qual:Str) (scope:Scope) (f:Addr) (cd:Value) (A:Around) (outer:List Env) (s:Shared) (H:Hp) (E:XK):Cx where
 prog:=P
 w:=w
 K:=K
 mg:=mg
 base:=base
 A:=A.deeper (xn qual scope s.heap.objs.size f cd)
 N:=N
 s₀:=s
 H₀:=H
 env:=xn qual scope s.heap.objs.size f cd
 outer:=outer
 stack:=xn qual scope s.heap.objs.size f cd :: outer
 ex:=[]
 calm:=true
 fn:=λ_=>true
 pn:=[]
 xe:=λe s'=>wpAny (model P w) (A.deeper (xn qual scope s.heap.objs.size f cd)) (leaving (xn qual scope s.heap.objs.size f cd) e) (λ_ s''=>CX outer H s E e s'') (λe' s''=>CX outer H s E e' s'') s'
theorem aAM {sc:Scope}{n:Nat}{x:Str}(h:sc.names.lookup x=some .cell):∃c,(j8 n sc.names []).lookup x=some c:=by
 have q:=qi sc.names n [] (.inl h)
 exact jc.mp q
theorem aCf {CX:CXT}{P:Program}{w:World}{K:ae}{mg:Str->Option Value}{base:Heap}{N ps:List Str}{qual:Str}{scope:Scope}{f:Addr}{cd:Value}{A:Around}{outer:List Env}{s s1:Shared}{H:Hp}{E:XK}{us:List Value}{vs:List V}
  (S:lE N ps scope) (hd:A.handled=none) (e0:aJh P w K mg base A outer s H) (hl:vs.length=ps.length) (r:Vals vs us)
  (x:InCallC s s.heap.objs.size (bindL (xn qual scope s.heap.objs.size f cd).kindOf (ps.zip us) λ_=>none) (j8 (s.heap.objs.size+1) scope.names []) (bindC (xn qual scope s.heap.objs.size f cd).kindOf (ps.zip us) λ_=>none) s1) :
  Inv (xT CX P w K mg base N qual scope f cd A outer s H E) [] (bR N vs) H s1:=by
 have hpl:ps.length<=N.length:=by have:=congrArg ze S.pre;rw[b9] at this;omega
 obtain⟨h1,tk,rfl,hk⟩:=x.done
 have noA:∀b:Addr,b∉(xT CX P w K mg base N qual scope f cd A outer s H E).ex:=λb z=>absurd (show b∈([]:List Addr) from z) (by simp)
 refine⟨⟨e0.mod,S.kind,rfl,rfl,ba _,λy z c h1 h2=>?_,λy hy=>?_,λy c _ h=>?_,λ_=>hd,Around.frames_deeper e0.frames, .inr ⟨rfl,rfl⟩,λb z=>absurd z (noA b),e0.bs,e0.bsz,λb _ _=>noA b,λb z=>absurd z (noA b),e0.funs,e0.frf⟩,
  rfl,e0.bare,Un.kept hk,⟨_,x.toInCall.ns,λi y v h1 h2 h3=>?_⟩,λy c h=>⟨_,x.cell y c h⟩,e0.hok.fresh (ba _),λy c h=>?_,λp hp=>absurd (show p∈([]:List (Addr×Obj)) from hp) (by simp),e0.hok.kept hk,?_⟩
 ·exact name_of_addr x.apart (gh h1) (gh h2)
 ·have hy:scope.names.lookup y=some .cell\/scope.names.lookup y=some .free:=hy
  rcases hy with hy | hy
  ·exact aAM hy
  ·exact absurd rfl (S.nofree _ (gh hy))
 ·exact ig (x.above y c (gh h))
 ·have hi:i<vs.length:=by
   unfold bR at h2
   by_cases hi:i<vs.length
   ·exact hi
   ·rw[c5 (by simpa using hi)] at h2
    rw[md] at h2
    split at h2 <;> cases h2
  have ha:vs[i]?=some v:=by
   unfold bR at h2
   rw[c8 (by simpa using hi),bh] at h2
   cases e:vs[i]? with
   |none=>rw[e] at h2;cases h2
   |some a=>rw[e] at h2;cases h2;rfl
  obtain⟨u,hu,rv⟩:=r.get ha
  have hp:ps[i]?=some y:=by
   rw[<- S.pre,lu (by omega)];exact h1
  have ndP:ps.Nodup:=by rw[<- S.pre];exact S.nd.sublist (List.take_sublist _ _)
  refine⟨u,rv,?_⟩
  rcases S.par y (au hp) with k | k
  ·exact .inl ⟨k,wT ndP hp hu k⟩
  ·obtain⟨c,e⟩:=aAM (n:=s.heap.objs.size+1) k
   refine .inr ⟨.inl k,c,e,?_⟩
   have q:=x.cell y c e
   rw[vM ndP hp hu (by show scope.names.lookup y≠_;rw[k];decide)] at q
   exact q
 ·exact e0.hok.fresh (ig (x.above y c (gh h)))
 ·unfold bR
  show _=N.length
  rw[bc,af,m8]
  omega
theorem aHD {CX:CXT}{P:Program}{w:World}{K:ae}{mg:Str->Option Value}{base:Heap}{k:Nat}{f:Addr}{name qual:Str}{params:Arguments}{body:List Stmt}{scope:Scope}{dV kV doc pm cdv ct oc:Value}{an od:Option Addr}
  {osl:Array (Option Value)}{N ps:List Str}{sp:Sp} (lk:K.lookup f=some ⟨oc,od, .func (jx name qual params body scope dV kV doc pm an cdv ct),osl⟩) (hcd:ve K cdv qual=true) (S:lE N ps scope)
  (len:∀vs H Q E,sp vs H Q E->vs.length=ps.length)
  (hbody:∀(A:Around) (outer:List Env) (s:Shared) (H:Hp) (vs:List V) (Q:VK) (E:XK),Room k (A.deeper (xn qual scope s.heap.objs.size f cdv))->sp vs H Q E ->
   ∃t,PSs (xT CX P w K mg base N qual scope f cdv A outer s H E) body t/\t { nx:=λ_ H'=>Q .non H',rt:=Q } (bR N vs) H) :
  FnOk P w K mg base CX (k+1) f (jx name qual params body scope dV kV doc pm an cdv ct) ps sp:=by
 refine⟨len,λA outer s H args us vs Q E hr e0 hb r hsp=>?_⟩
 have hl:=len _ _ _ _ hsp
 have KX:K.In s.heap:=e0.mod.kin.keeps λb o e=>(e0.bs b o e).1
 have lim:s.heap.NoLimit:=e0.mod.nolimit.keeps λb o e=>(e0.bs b o e).1
 have hkind:∀y∈ps.zip us,scope.names.lookup y.1=some .local\/(scope.names.lookup y.1=some .cell/\((j8 (s.heap.objs.size+1) scope.names []).lookup y.1).isSome=true):=λ⟨n,v⟩ hy=>by
  rcases S.par n (xm hy).1 with q | q
  ·exact .inl q
  ·exact .inr ⟨q,qi _ _ _ (.inl q)⟩
 refine codeAny_call_function hr.depth (KX _ _ lk) rfl S.co S.gen rfl (PySem.W.codeRec_of KX hcd) (hb _ _ _ _ ?_)
 refine wpAny_newFunctionEnv_cells S.kind hkind λenv he s1 x=>?_
 subst he
 refine⟨lim.keeps x.toInCall.keep,codeAny_func ?_⟩
 obtain⟨t,ht,hq⟩:=hbody A outer s H vs Q E (hr.deeper _) hsp
 have I:Inv (xT CX P w K mg base N qual scope f cdv A outer s H E) [] (bR N vs) H s1:=aCf S hr.hd e0 hl r x
 refine jl (ht [] s1 (bR N vs) H _ I hq) (λfl s' hs=>?_) λe s' hs=>hs
 have fin:∀{σ':St}{H':Hp}{v:V}{u:Value},Inv (xT CX P w K mg base N qual scope f cdv A outer s H E) [] σ' H' s'->RelV v u->Q v H'->CE outer P w H s Q u s':=
  λ{σ' H' v u} J rv q=>⟨v,H',J.os,J.bare,J.base,J.hok,rv,q⟩
 cases fl with
 |ret u=>
  obtain⟨v,σ',H',J,rv,q⟩:=hs
  exact fin J rv q
 |next=>
  obtain⟨σ',H',J,q⟩:=hs
  exact fin (v:=V.non) (u:=Value.none) J rfl q
 |brk=>
  obtain⟨_,_,_,q⟩:=hs
  exact lq q
 |cont=>
  obtain⟨_,_,_,q⟩:=hs
  exact lq q
section
variable {X:Cx}{x:Str}{p pos:Pos}{e:Expr}{es:List Expr}{t:TA}{id T:String}{r:List V->Hp->VK->Prop}
def tCB (r:List V->Hp->VK->Prop) (t:TA):TE:=λσ H Q=>t σ H λvs H1=>r vs H1 Q
theorem aM (hc:CallR X (.builtin id) r)(hg:Gl X x)(hm:X.mg x=none)(hv:e9 x=some (.builtin id))(ha:PA X (e :: es) t)(hn:x≠"__name__":=by decide)(hdb:(x == ("__debug__" : Str))=false:=by decide)
  (he:fi (e :: es) X.env=(false,eval e X.env) :: fi es X.env:=by rfl) (hpl:(vo pos (fi es X.env)).any (·.1)=false:=by rfl):PE X (.Call (.Name x p) (e :: es) [] pos) (tCB r t):=by
 intro pins s σ H Q I h
 refine uu (oH I hg hm hv ?_ hn hdb)
 exact PyProof.Rows.callWith_builtin1 (thn (ha pos pins s σ H _ I h) λus s1 ⟨vs,H1,I1,r1,q1⟩=>hc pins s1 σ H1 vs us Q I1 r1 q1) he hpl
theorem dS (hc:CallR X (.type T) r)(hg:Gl X x)(hm:X.mg x=none)(hv:e9 x=some (.type T))(ha:PA X (e :: es) t)(hn:x≠"__name__":=by decide)(hdb:(x == ("__debug__" : Str))=false:=by decide)
  (he:fi (e :: es) X.env=(false,eval e X.env) :: fi es X.env:=by rfl) (hpl:(vo pos (fi es X.env)).any (·.1)=false:=by rfl):PE X (.Call (.Name x p) (e :: es) [] pos) (tCB r t):=by
 intro pins s σ H Q I h
 refine uu (oH I hg hm hv ?_ hn hdb)
 exact jg (thn (ha pos pins s σ H _ I h) λus s1 ⟨vs,H1,I1,r1,q1⟩=>hc pins s1 σ H1 vs us Q I1 r1 q1) he hpl
end
end L2
namespace HT
open PySem PyProof.Rows
def lexLt:List Int->List Int->Bool
 |[],[]=>false
 |[],_ :: _=>true
 |_ :: _,[]=>false
 |x :: xs,y :: ys=>if x=y then lexLt xs ys else decide (x<y)
theorem lexLt_cons (x y:Int)(xs ys:List Int):lexLt (x :: xs) (y :: ys)=if x=y then lexLt xs ys else decide (x<y):=rfl
theorem tH:lexLt [] []=false:=rfl
theorem lexLt_nil_cons (y:Int)(ys:List Int):lexLt [] (y :: ys)=true:=rfl
theorem lexLt_cons_nil (x:Int)(xs:List Int):lexLt (x :: xs) []=false:=rfl
theorem aEJ (A:Around)(s:Shared)(a:Int)(t:Tok)(c:Int)(u:Tok):∃e,gi A s (.int a t) (.int c u) e/\(e=true↔a=c):=
 ⟨(a == c),uv a t c u,by simp⟩
theorem aEq (A:Around)(s:Shared)(a:Int)(t:Tok)(c:Int)(u:Tok)(prog:Program)(w:World)(E:Value->Shared->Prop)(Q:Value->Shared->Prop)(h:Q (.bool (decide (a<c))) s) :
  wpAny (model prog w) A (AK .Lt (.int a t) (.int c u)) Q E s:=
 (PyProof.Rows.lt_int h:wpAny (model prog w) A (gj .Lt (.int a t) (.int c u)) Q E s)
section
open PySem.SeqAt
open PySem.AutoSeq1 (wpAny_loadPart')
open PySem.MeetsSeq PySem.MeetsSeq2 PySem.MeetsSeq3
theorem tR (l b:Addr)(items items2:Array Value)(n n2:Nat)(dd dd2:Option Addr)(sl sl2:Array (Option Value))(ns ms:List Int)(hi:IntsAre items.toList ns)(hj:IntsAre items2.toList ms) :
  Meets (Builtin.«tuple.__lt__» ⟨[.ref l, .ref b],[]⟩)
   (λ_ R s=>s.heap.get? l=some { cls := .type "tuple",dict:=dd,data := .seq items n,slots:=sl }/\s.heap.get? b=some { cls := .type "tuple",dict:=dd2,data := .seq items2 n2,slots:=sl2 } /\
    R (.ok (.ret (.bool (lexLt ns ms)))) s):=
 .of_wp λprog w A R s h=>by
  obtain⟨hp,g,d,tk,os⟩:=s;obtain⟨hl,hb,h⟩:=h
  have f2:=vp
  have z1:items.size=ns.length:=by rw[<- hi.length];simp
  have z2:items2.size=ms.length:=by rw[<- hj.length];simp
  wp_walk using tw hl,tw hb,mn _ (λrest b s'=>b.1=none/\s'=⟨hp,g,d,tk,os⟩/\∃(vs ws:List Value) (ns' ms':List Int),rest=vs.zip ws /\
   IntsAre vs ns'/\IntsAre ws ms'/\ns'.length+items2.size=ms'.length+items.size/\R (.ok (.ret (.bool (lexLt ns' ms')))) ⟨hp,g,d,tk,os⟩) _
  case turn=>
   rintro⟨y,x⟩ rest b s' ⟨hb',rfl,vs,ws,ns',ms',hz,hvi,hwi,hlen,hR⟩
   cases hvi with
   |nil=>rw[List.zip_nil_left] at hz;cases hz
   |cons a t hvi'=>
    cases hwi with
    |nil=>rw[List.zip_nil_right] at hz;cases hz
    |cons c u hwi'=>
     rw[my] at hz
     injection hz with hyx hrest
     injection hyx with hy hx
     subst hy hx
     rw[lexLt_cons] at hR
     simp only[cy] at hlen
     obtain⟨e,he,hiff⟩:=aEJ A.in1 ⟨hp,g,d,tk,os⟩ a t c u
     refine aa (he prog w _ _ ?_)
     cases e with
     |true=>
      rw[if_pos (hiff.mp rfl)] at hR
      wp_walk
      exact⟨rfl,rfl,_,_,_,_,hrest,hvi',hwi',by omega,hR⟩
     |false=>
      rw[if_neg (λq=>absurd (hiff.mpr q) bq)] at hR
      have hri:=aEq A.in1 ⟨hp,g,d,tk,os⟩ a t c u prog w
      wp_walk using hri
      exact⟨_,rfl,by simpa using hR⟩
  case fin=>
   rintro⟨b1,b2⟩ s' ⟨hb',rfl,vs,ws,ns',ms',hz,hvi,hwi,hlen,hR⟩
   simp only at hb'
   subst hb'
   have hv:lexLt ns' ms'=decide (items.size<items2.size):=by
    cases hvi with
    |nil=>
     cases hwi with
     |nil=>
      simp only[kn] at hlen
      rw[tH]
      exact(decide_eq_false (by omega)).symm
     |cons c u hw=>
      simp only[kn,cy] at hlen
      rw[lexLt_nil_cons]
      exact(decide_eq_true (by omega)).symm
    |cons a t hv=>
     cases hwi with
     |nil=>
      simp only[kn,cy] at hlen
      rw[lexLt_cons_nil]
      exact(decide_eq_false (by omega)).symm
     |cons c u hw=>
      rw[my] at hz
      cases hz
   rw[hv] at hR
   wp_walk
   exact⟨_,rfl,by simpa[Builtin.Tuple.tupleCompareSizes] using hR⟩
  case h=>
   exact⟨rfl,rfl,items.toList,items2.toList,ns,ms,rfl,hi,hj,by omega,h⟩
end
section
variable {prog:Program}{w:World}{A:Around}{E:Value->Shared->Prop}{s:Shared}
theorem lt_tupInts {l b:Addr}{items items2:Array Value}{ns ms:List Int}{Q:Value->Shared->Prop}(hl:IsTup s.heap l items)(hb:IsTup s.heap b items2)(hi:IntsAre items.toList ns)(hj:IntsAre items2.toList ms)
  (hu:A.units<cLine) (h:Q (.bool (lexLt ns ms)) s):wpAny (model prog w) A (gj .Lt (.ref l) (.ref b)) Q E s:=by
 obtain⟨⟨cls,dd,data,sl⟩,ho,hc,n,hd⟩:=id hl
 obtain⟨⟨cls2,dd2,data2,sl2⟩,ho2,hc2,n2,hd2⟩:=id hb
 simp only at hc hd hc2 hd2
 subst hc hd hc2 hd2
 exact xc (op := .Lt) ⟨_,ho,rfl⟩ ⟨_,ho2,rfl⟩ PySem.F.slot_tuple_lt PySem.F.entry_tuple_lt (PySem.F.args_tuple_lt_2 _ _) (tR l b items items2 n n2 dd dd2 sl sl2 ns ms hi hj)
  ⟨ho,ho2,show Value.bool (lexLt ns ms)≠Value.notImplemented/\Q (.bool (lexLt ns ms)) s from⟨(λx=>nomatch x),h⟩⟩ hu
theorem cat_tup {t b:Addr}{vs ws:List Value}{Q:Value->Shared->Prop}(ht:IsTup s.heap t vs.toArray)(hb:IsTup s.heap b ws.toArray)(hv:vs≠[])
  (h1:ws=[]->Q (.ref t) s) (h2:ws≠[]->Q (.ref s.heap.objs.size) { s with heap:=s.heap.push { cls := .type "tuple",data := .seq (vs++ws).toArray } })
  (hsz:vs.length+ws.length<=bx):wpAny (model prog w) A (lh .Add (.ref t) (.ref b)) Q E s:=by
 obtain⟨⟨cls,dd,data,sl⟩,ho,hc,n,hd⟩:=id ht
 obtain⟨⟨cls2,dd2,data2,sl2⟩,ho2,hc2,n2,hd2⟩:=id hb
 simp only at hc hd hc2 hd2
 subst hc hd hc2 hd2
 have e:vs.toArray++ws.toArray=(vs++ws).toArray:=by simp
 by_cases hw:ws=[]
 ·exact Av ⟨_,ho,rfl⟩ ⟨_,ho2,rfl⟩ w8 zw qj qc (pe _ _)
   (tuple_addW1 t b vs.toArray ws.toArray n n2 dd dd2 sl sl2 (by simpa using hv) (by simp[hw])) ⟨ho,ho2,h1 hw⟩
 ·refine Av ⟨_,ho,rfl⟩ ⟨_,ho2,rfl⟩ w8 zw qj qc (pe _ _)
   (tuple_addW2 t b vs.toArray ws.toArray n n2 dd dd2 sl sl2 (by simpa using hv) (by simpa using hw) (by rw[ar,ar];exact hsz)) ⟨ho,ho2,?_⟩
  rw[e]
  exact h2 hw
def sIx (n d:Nat):Option Int->Nat
 |none=>d
 |some v=>if v<0 then(v+(n:Int)).toNat else min v.toNat n
theorem sIx_none (n d:Nat):sIx n d none=d:=rfl
theorem sIx_nat (n d k:Nat):sIx n d (some (k:Int))=min k n:=by
 show(if(k:Int)<0 then((k:Int)+(n:Int)).toNat else min (k:Int).toNat n)=min k n
 rw[if_neg (by omega),bu]
theorem aID (n d:Nat)(hd:d<=n)(o:Option Int):sIx n d o<=n:=by
 cases o with
 |none=>exact hd
 |some v=>
  show(if v<0 then(v+(n:Int)).toNat else min v.toNat n)<=n
  by_cases hv:v<0
  ·rw[if_pos hv];omega
  ·rw[if_neg hv];exact Nat.min_le_right _ _
theorem aBF (v:Int)(n d:Nat):(if v<0 then max (v+(n:Int)) 0 else min v (n:Int))=((sIx n d (some v):Nat):Int):=by
 show(if v<0 then max (v+(n:Int)) 0 else min v (n:Int))=(((if v<0 then(v+(n:Int)).toNat else min v.toNat n):Nat):Int)
 by_cases hv:v<0
 ·simp only[if_pos hv];omega
 ·simp only[if_neg hv];omega
theorem aBt (lo hi:Option Int)(n:Nat):n9 lo hi 1 (n:Int)=(((sIx n 0 lo:Nat):Int),((sIx n n hi:Nat):Int)):=by
 have h1:¬ ((1:Int)<0):=by omega
 unfold n9
 simp only[h1,if_false]
 refine AI ?_ ?_
 ·cases lo with
  |none=>rfl
  |some v=>exact aBF v n 0
 ·cases hi with
  |none=>rfl
  |some v=>exact aBF v n n
theorem aBp (i j:Nat):la (i:Int) (j:Int) 1=j - i:=by
 unfold la
 have h1:(1:Int) > 0:=by omega
 simp only[h1,if_true,Aw]
 split <;> omega
theorem sG {v:Value}{o:Option Int}{Q:Option Int->Shared->Prop}(p:IsPart v o)(h:Q o s):wpAny (model prog w) A (Builtin.Slice.slicePartIndex v) Q E s:=by
 cases p with
 |none=>exact slicePart_none h
 |int i t=>exact slicePart_int h
theorem sliceApplied_gen {sl:Addr}{vl vu:Value}{lo hi:Option Int}{n:Nat}{Q:Int×Int×Nat->Shared->Prop}(hs:s.heap.IsSliceOf sl vl vu .none)(pl:IsPart vl lo)(pu:IsPart vu hi)
  (h:Q (((sIx n 0 lo:Nat):Int),1,sIx n n hi - sIx n 0 lo) s):wpAny (model prog w) A (uo (.ref sl) (pure (n:Int))) Q E s:=by
 obtain⟨os,hos,hcs,hds⟩:=id hs
 unfold uo Builtin.Slice.sliceFields
 refine aa (aa (gp hos hds (x:=vl) rfl (aa (gp hos hds (x:=vu) rfl (aa (gp hos hds (x := .none) rfl (ao ?_)))))))
 refine aa (slicePart_none ?_)
 show wpAny _ _ (if((1:Int) == 0)=true then _ else _) _ _ s
 rw[if_neg (by decide)]
 refine aa (sG pl (aa (sG pu (aa (ao ?_)))))
 show wpAny _ _ (match n9 lo hi 1 (n:Int) with | (lo,hi)=>pure (lo,(1:Int),la lo hi 1)) _ _ s
 rw[aBt lo hi n]
 show wpAny _ _ (pure (((sIx n 0 lo:Nat):Int),(1:Int),la ((sIx n 0 lo:Nat):Int) ((sIx n n hi:Nat):Int) 1)) _ _ s
 rw[aBp]
 exact ao h
theorem aDO (xs:Array Value)(i k:Nat):((aq k).filterMap λ(m:Nat)=>xs[((i:Int)+(m:Int)*1).toNat]?).toArray=((xs.toList.drop i).take k).toArray:=by
 have e:(λ(m:Nat)=>xs[((i:Int)+(m:Int)*1).toNat]?)=λm=>xs[i+m]?:=by
  funext m
  have:((i:Int)+(m:Int)*1).toNat=i+m:=by omega
  rw[this]
 rw[e]
 have:=pick_run xs i k
 rw[List.filterMap_map] at this
 have e2:((λx=>xs[x]?)∘λx=>i+x)=λm=>xs[i+m]?:=rfl
 rw[e2] at this
 rw[this]
theorem getItem_tuple_cut {t sl:Addr}{items:Array Value}{vl vu:Value}{lo hi:Option Int}{Q:Value->Shared->Prop}(ht:IsTup s.heap t items)(hs:s.heap.IsSliceOf sl vl vu .none)(pl:IsPart vl lo)(pu:IsPart vu hi)
  (hw:¬ (sIx items.size 0 lo=0/\sIx items.size items.size hi=items.size))
  (h:Q (.ref s.heap.objs.size) { s with heap:=s.heap.push { cls := .type "tuple",data := .seq ((items.toList.drop (sIx items.size 0 lo)).take (sIx items.size items.size hi - sIx items.size 0 lo)).toArray } })
  (hsz:items.size<=bx):wpAny (model prog w) A (Aj (.ref t) (.ref sl)) Q E s:=by
 have htake:sizeOk (.seq ((items.toList.drop (sIx items.size 0 lo)).take (sIx items.size items.size hi - sIx items.size 0 lo)).toArray):=by
  show((items.toList.drop (sIx items.size 0 lo)).take (sIx items.size items.size hi - sIx items.size 0 lo)).toArray.size<=bx
  rw[ar,b9,jn,cg]
  omega
 have hj:sIx items.size items.size hi<=items.size:=aID _ _ (ba _) hi
 obtain⟨os,hos,hcs,hds⟩:=id hs
 have hTs:s.TypeIs (.ref sl) "slice":=⟨os,hos,hcs⟩
 unfold Aj
 try with_reducible refine fq ?_
 first | refine aa (ao ?_) | skip
 refine aa (wpAny_sequenceKey ht.typeIs (by decide) ?_)
 refine aa (dz (name:=jy "__getitem__") ht.typeIs gq
  (dt gq ht.typeIs zf ?_ (args_tuple_getitem _ _)))
 show wpAny _ _ (nv (.ref t) >>= _) _ _ s
 refine aa (tupleItemsOf_ ht ?_)
 refine aa (rh hTs ?_)
 rw[if_pos (by decide)]
 refine aa (sliceApplied_gen hs pl pu ?_)
 have hno:¬ ((((sIx items.size 0 lo:Nat):Int) == 0 && (1:Int) == 1 && (sIx items.size items.size hi - sIx items.size 0 lo) == items.size)=true):=by
  intro q
  rw[b7,b7] at q
  have q1:((sIx items.size 0 lo:Nat):Int)=0:=t6 q.1.1
  have q2:sIx items.size items.size hi - sIx items.size 0 lo=items.size:=t6 q.2
  exact hw ⟨by omega,by omega⟩
 show wpAny _ _ (if(((sIx items.size 0 lo:Nat):Int) == 0 && (1:Int) == 1 && (sIx items.size items.size hi - sIx items.size 0 lo) == items.size)=true then _ else _) _ _ s
 rw[if_neg hno,aDO]
 first
  |exact aa (m:=lx _) (fc (ao ⟨_,rfl,ao h⟩) htake)
  |exact aa (m:=lx _) (fc (aa (ao (ao ⟨_,rfl,ao h⟩))) htake)
  |exact aa (aa (m:=lx _) (fc (ao (ao ⟨_,rfl,ao h⟩)) htake))
  |exact aa (aa (m:=lx _) (fc (ao ⟨_,rfl,ao h⟩) htake))
end
end HT
namespace L2
open PySem PySem.Spec PyProof.Rows
abbrev TO:=St->Hp->(Option Int->Hp->Prop)->Prop
def PO (X:Cx) (e:Option Expr) (t:TO):Prop:=
 ∀(pins:List (Addr×Obj)) (s:Shared) (σ:St) (H:Hp) (Q:Option Int->Hp->Prop),Inv X pins σ H s->t σ H Q ->
  wpAny (model X.prog X.w) X.A (evalPart e X.env) (λu s'=>∃o H',Inv X pins σ H' s'/\IsPart u o/\Q o H') X.xe s
def gP:TO:=λ_ H Q=>Q none H
def lI (t:TE):TO:=λσ H Q=>t σ H λx H1=>∃i,x = .int i/\Q (some i) H1
theorem fL {ns:List Int}:∀{us:List Value},Vals (ns.map V.int) us->IntsAre us ns:=by
 induction ns with
 |nil=>intro us r;rw[uw] at r;cases r;exact .nil
 |cons n ns ih=>
  intro us r
  rw[c4] at r
  cases r with
  |cons r1 r2=>
   obtain⟨t,e⟩:=r1
   subst e
   exact .cons n t (ih r2)
section
variable {X:Cx}{e:Expr}{te:TE}{lo hi:Option Expr}{tl th:TO}{pos p2:Pos}
theorem iQ:PO X none gP:=by
 intro pins s σ H Q I h
 rw[evalPart_none]
 exact ao ⟨none,H,I, .none,h⟩
theorem eZ (h:PE X e te):PO X (some e) (lI te):=by
 intro pins s σ H Q I hw
 rw[evalPart_some]
 refine thn (h pins s σ H _ I hw) λu s1 ⟨x,H1,I1,r1,q1⟩=>?_
 obtain⟨i,rfl,q⟩:=q1
 obtain⟨t,rfl⟩:=r1
 exact⟨some i,H1,I1, .int i t,q⟩
def SlR (X:Cx) (r:V->Option Int->Option Int->Hp->VK->Prop):Prop:=
 ∀(pins:List (Addr×Obj)) (s:Shared) (σ:St) (H:Hp) (x:V) (v vl vu:Value) (lo hi:Option Int) (sl:Addr) (Q:VK),Inv X pins σ H s->RelV x v->s.heap.IsSliceOf sl vl vu .none->IsPart vl lo->IsPart vu hi->r x lo hi H Q ->
  ∃T id,typeLookup (.type T) "__getitem__" = pure (some (.builtin id))/\s.TypeIs v T/\wpAny (model X.prog X.w) X.A (Aj v (.ref sl)) (EP X pins σ Q) X.xe s
theorem SlR.or {r r':V->Option Int->Option Int->Hp->VK->Prop}(h:SlR X r)(h':SlR X r'):SlR X (λx lo hi H Q=>r x lo hi H Q\/r' x lo hi H Q):=by
 intro pins s σ H x v vl vu lo hi sl Q I rx hs pl pu q
 rcases q with q | q
 ·exact h pins s σ H x v vl vu lo hi sl Q I rx hs pl pu q
 ·exact h' pins s σ H x v vl vu lo hi sl Q I rx hs pl pu q
def tSl (r:V->Option Int->Option Int->Hp->VK->Prop) (te:TE) (tl th:TO):TE:=λσ H Q=>te σ H λx H1=>tl σ H1 λl H2=>th σ H2 λu H3=>r x l u H3 Q
theorem eU {r:V->Option Int->Option Int->Hp->VK->Prop}(hr:SlR X r)(he:PE X e te)(hl:PO X lo tl)(hu:PO X hi th):PE X (.Subscript e (.Slice lo hi none p2) pos) (tSl r te tl th):=by
 intro pins s σ H Q I h
 refine Subscript_ (thn (he pins s σ H _ I h) λv s1 ⟨x,H1,I1,r1,q1⟩=>?_)
 refine wpAny_Slice (thn (hl pins s1 σ H1 _ I1 q1) λvl s2 ⟨l,H2,I2,pl,q2⟩=>thn (hu pins s2 σ H2 _ I2 q2) λvu s3 ⟨u,H3,I3,pu,q3⟩=>?_)
 rw[evalPart_none]
 refine ao ?_
 have I4:Inv X pins σ H3 { s3 with heap:=s3.heap.push { cls := .type "slice",data := .fields #[vl,vu, .none] } }:=I3.kept (t':=s3.toks) λb ob q=>aj _ q
 obtain⟨T,id,hT,ht,hg⟩:=hr pins { s3 with heap:=s3.heap.push { cls := .type "slice",data := .fields #[vl,vu, .none] } } σ H3 x v vl vu l u s3.heap.objs.size Q I4 r1 (Heap.IsSliceOf.new ..) pl pu q3
 show wpAny (model X.prog X.w) X.A (subscriptTail e (.Slice lo hi none p2) v (.ref s3.heap.objs.size)) (EP X pins σ Q) X.xe { s3 with heap:=s3.heap.push { cls := .type "slice",data := .fields #[vl,vu, .none] } }
 exact tail_any (ops:=[.ref s3.heap.objs.size,v]) ht hT hg (by with_unfolding_all rfl)
def vB (xs:List V) (lo hi:Option Int):List V:=(xs.drop (HT.sIx xs.length 0 lo)).take (HT.sIx xs.length xs.length hi - HT.sIx xs.length 0 lo)
theorem oO (xs:List V)(lo hi:Option Int):(vB xs lo hi).length<=xs.length:=by
 unfold vB
 rw[b9,jn]
 omega
def aLx (K:ae):V->Option Int->Option Int->Hp->VK->Prop:=λx lo hi H Q=>∃a xs,x = .ref a/\SqT K H a xs /\
 ¬ (HT.sIx xs.length 0 lo=0/\HT.sIx xs.length xs.length hi=xs.length)/\∀p,H p=none->Q (.ref p) (upd H p (.tup (vB xs lo hi)))
theorem aHJ:SlR X (aLx X.K):=by
 intro pins s σ H x v vl vu lo hi sl Q I rx hs pl pu h
 obtain⟨a,xs,rfl,hx,hw,q⟩:=h
 cases rx
 obtain⟨its,r,ht,hz⟩:=I.tuple hx
 have hlen:its.toArray.size=xs.length:=by rw[ar];exact r.length.symm
 refine⟨"tuple",_,gq.lookup,ht.typeIs,?_⟩
 refine HT.getItem_tuple_cut ht hs pl pu (by rw[hlen];exact hw) ?_ (by rw[hlen];exact hz)
 rw[hlen]
 refine⟨.ref s.heap.objs.size,_,I.laid (t':=s.toks) (o := .tup (vB xs lo hi)) (λb ob q=>aj _ q) (ba _) ?_,rfl,q _ (I.hok.fresh (ba _))⟩
 exact⟨c9 (oO xs lo hi) hz,_,(r.drop (HT.sIx xs.length 0 lo)).take (HT.sIx xs.length xs.length hi - HT.sIx xs.length 0 lo),TupN.new _ _⟩
def aKE (K:ae):R2:=λx y H Q=>∃a b ns ms,x = .ref a/\y = .ref b/\SqT K H a (ns.map V.int)/\SqT K H b (ms.map V.int)/\Q (.bl (HT.lexLt ns ms)) H
theorem aHy (hu:X.A.units<cLine):OpR X (gj .Lt) (aKE X.K):=by
 intro pins s σ H x y v u Q I rx ry h
 obtain⟨a,b,ns,ms,rfl,rfl,ha,hb,q⟩:=h
 cases rx
 cases ry
 obtain⟨its,r1,p1,_⟩:=I.tuple ha
 obtain⟨its2,r2,p2,_⟩:=I.tuple hb
 have i1:IntsAre its.toArray.toList ns:=fL r1
 have i2:IntsAre its2.toArray.toList ms:=fL r2
 exact HT.lt_tupInts p1 p2 i1 i2 hu ⟨.bl (HT.lexLt ns ms),H,I,rfl,q⟩
def aJw (K:ae):R2:=λx y H Q=>∃a b xs ys,x = .ref a/\y = .ref b/\SqT K H a xs/\SqT K H b ys/\xs≠[]/\xs.length+ys.length<=bx /\
 (ys=[]->Q (.ref a) H)/\(ys≠[]->∀p,H p=none->Q (.ref p) (upd H p (.tup (xs++ys))))
theorem Vals.nil_iff {xs:List V}{us:List Value}(r:Vals xs us):us=[]↔xs=[]:=by
 cases r with
 |nil=>simp
 |cons _ _=>simp
theorem aFN:OpR X (lh .Add) (aJw X.K):=by
 intro pins s σ H x y v u Q I rx ry h
 obtain⟨a,b,xs,ys,rfl,rfl,ha,hb,hx,hz,q1,q2⟩:=h
 cases rx
 cases ry
 obtain⟨its,r1,p1,_⟩:=I.tuple ha
 obtain⟨its2,r2,p2,_⟩:=I.tuple hb
 refine HT.cat_tup p1 p2 (λz=>hx (r1.nil_iff.mp z)) (λz=>⟨.ref a,H,I,rfl,q1 (r2.nil_iff.mp z)⟩) (λz=>?_) (by rw[<- r1.length,<- r2.length];exact hz)
 refine⟨.ref s.heap.objs.size,_,I.laid (t':=s.toks) (o := .tup (xs++ys)) (λb ob q=>aj _ q) (ba _) ?_,rfl,q2 (λw=>z (r2.nil_iff.mpr w)) _ (I.hok.fresh (ba _))⟩
 exact⟨by rw[bc];exact hz,_,r1.append r2,TupN.new _ _⟩
end
def ixN (n:Nat) (i:Int):Option Nat:=if 0<=i then(if i<n then some i.toNat else none) else if -(n:Int)<=i then some (i+n).toNat else none
def atI {α:Type} (xs:List α) (i:Int):Option α:=(ixN xs.length i).bind λj=>xs[j]?
theorem aBO {n:Nat}{i:Int}{j:Nat}(h:ixN n i=some j):seqIndex? i n=some j/\j<n/\-(n:Int)<=i/\i<n:=by
 unfold ixN at h
 by_cases h0:0<=i
 ·rw[if_pos h0] at h
  by_cases h1:i<n
  ·rw[if_pos h1] at h
   have e:i.toNat=j:=az h
   exact⟨by rw[AL h0 h1,e],by omega,by omega,h1⟩
  ·rw[if_neg h1] at h;cases h
 ·rw[if_neg h0] at h
  by_cases h1:-(n:Int)<=i
  ·rw[if_pos h1] at h
   have e:(i+n).toNat=j:=az h
   exact⟨by rw[Ax (by omega) h1,e],by omega,h1,by omega⟩
  ·rw[if_neg h1] at h;cases h
theorem aBU {α:Type}{xs:List α}{i:Int}{v:α}(h:atI xs i=some v):∃j,seqIndex? i xs.length=some j/\xs[j]?=some v/\j<xs.length/\-(xs.length:Int)<=i/\i<xs.length:=by
 unfold atI at h
 cases e:ixN xs.length i with
 |none=>rw[e] at h;cases h
 |some j=>
  rw[e] at h
  obtain⟨h1,h2,h3,h4⟩:=aBO e
  exact⟨j,h1,h,h2,h3,h4⟩
theorem aCD {α:Type}{xs:List α}{j:Nat}{v:α}(h:xs[j]?=some v):atI xs (j:Int)=some v:=by
 have hj:j<xs.length:=(ai.mp h).1
 have e:ixN xs.length (j:Int)=some j:=by
  unfold ixN
  rw[if_pos (by omega),if_pos (by omega)];simp
 unfold atI;rw[e];exact h
def aGn (b:Expr):Prop:=∀o i,subscripted b false o i=operate [o,i] (Aj o i)
def IxR (X:Cx) (r:R2):Prop:=
 ∀(value slice:Expr) (pins:List (Addr×Obj)) (s:Shared) (σ:St) (H:Hp) (x y:V) (v u:Value) (Q:VK),Inv X pins σ H s->RelV x v->RelV y u->r x y H Q ->
  subscripted slice false v u=operate [v,u] (Aj v u)->wpAny (model X.prog X.w) X.A (subscriptTail value slice v u) (EP X pins σ Q) X.xe s
def MtR (X:Cx) (id:String) (r:V->List V->Hp->VK->Prop):Prop:=
 ∀(pins:List (Addr×Obj)) (s:Shared) (σ:St) (H:Hp) (x:V) (xs:List V) (v:Value) (us:List Value) (Q:VK),Inv X pins σ H s->RelV x v->Vals xs us->r x xs H Q ->
  wpAny (model X.prog X.w) X.A (call (.builtin id) (v :: us)) (EP X pins σ Q) X.xe s
section
variable {X:Cx}{a b:Expr}{ta tb:TE}{pos:Pos}
theorem IxR.or {r r':R2}(h:IxR X r)(h':IxR X r'):IxR X (λx y H Q=>r x y H Q\/r' x y H Q):=by
 intro value slice pins s σ H x y v u Q I rx ry q hs
 rcases q with q | q
 ·exact h value slice pins s σ H x y v u Q I rx ry q hs
 ·exact h' value slice pins s σ H x y v u Q I rx ry q hs
theorem aU {r:R2}(hr:IxR X r)(ha:PE X a ta)(hb:PE X b tb)(hs:aGn b):PE X (.Subscript a b pos) (tOp r ta tb):=by
 intro pins s σ H Q I h
 exact Subscript_ (aKM ha hb I h λv u s2 x y H2 I2 rx ry q=>hr a b pins s2 σ H2 x y v u Q I2 rx ry q (hs _ _))
def aJm (K:ae):R2:=λx y H Q=>∃p xs i v,x = .ref p/\y = .int i/\SqL K H p xs/\atI xs i=some v/\Q v H
def aJu (K:ae):R2:=λx y H Q=>∃p xs i v,x = .ref p/\y = .int i/\SqT K H p xs/\atI xs i=some v/\Q v H
theorem aGU:IxR X (aJm X.K):=by
 intro value slice pins s σ H x y v u Q I rx ry h hs
 obtain⟨p,xs,i,z,rfl,rfl,hq,he,q⟩:=h
 cases rx
 obtain⟨t,rfl⟩:=ry
 obtain⟨its,r,pl,hz⟩:=I.list hq
 obtain⟨j,h1,h2,h3,h4,h5⟩:=aBU he
 obtain⟨w,ew,rw'⟩:=r.get h2
 have hl:=r.length
 have hn:=aAy
 have fin:EP X pins σ Q w s:=⟨z,H,I,rw',q⟩
 by_cases h0:0<=i
 ·have hj:i.toNat=j:=by
   rw[AL h0 h5] at h1
   exact az h1
  exact item_listR pl.isList h0 (by omega) (by rw[hj];simpa using ew) fin hs
 ·have hj:(i+(its.toArray.size:Int)).toNat=j:=by
   rw[Ax (by omega) h4] at h1
   rw[ar,<- hl]
   exact az h1
  exact xf (x:=w) pl.isList.typeIs slot_list_getitem.lookup
   (wpAny_getItem_list_neg (Q:=λr s'=>r=w/\EP X pins σ Q r s') pl.isList (by omega) (by rw[ar] <;> omega) (by omega) (by rw[hj];simpa using ew) ⟨rfl,fin⟩) hs
theorem aHl:IxR X (aJu X.K):=by
 intro value slice pins s σ H x y v u Q I rx ry h hs
 obtain⟨p,xs,i,z,rfl,rfl,hq,he,q⟩:=h
 cases rx
 obtain⟨t,rfl⟩:=ry
 obtain⟨its,r,pl,hz⟩:=I.tuple hq
 obtain⟨j,h1,h2,h3,h4,h5⟩:=aBU he
 obtain⟨w,ew,rw'⟩:=r.get h2
 have hl:=r.length
 have hn:=aAy
 have fin:EP X pins σ Q w s:=⟨z,H,I,rw',q⟩
 exact xf (x:=w) pl.typeIs slot_tuple_getitem.lookup
  (getItem_tuple (j:=j) (Q:=λr s'=>r=w/\EP X pins σ Q r s') pl (by omega) (by omega) (by rw[ar,<- hl];exact h1) (by simpa using ew) ⟨rfl,fin⟩) hs
theorem aBj (its:List Value)(n j:Nat)(u:Value):jz (·.setIfInBounds j u) { cls := .type "list",data := .seq its.toArray n }={ cls := .type "list",data := .seq (its.set j u).toArray n }:=by
 simp[jz]
theorem Inv.lst {pins:List (Addr×Obj)}{σ:St}{H:Hp}{s:Shared}{p:Addr}{xs:List V}(I:Inv X pins σ H s)(h:H p=some (.lst xs)) :
  ∃(its:List Value) (n:Nat),Vals xs its/\s.heap.get? p=some { cls := .type "list",data := .seq its.toArray n }/\xs.length<=bx:=by
 obtain⟨z,its,n,r,e⟩:=I.hok p _ h
 exact⟨its,n,r,e,z⟩
theorem Inv.lstUpd {pins:List (Addr×Obj)}{σ:St}{H:Hp}{s:Shared}{p:Addr}{xs ys:List V}{its its':List Value}{n n':Nat}{f:Obj->Obj}(I:Inv X pins σ H s)(h:H p=some (.lst xs))
  (ho:s.heap.get? p=some { cls := .type "list",data := .seq its.toArray n }) (hf:f { cls := .type "list",data := .seq its.toArray n }={ cls := .type "list",data := .seq its'.toArray n' }) (r:Vals ys its') (hz:ys.length<=bx) (t:Nat) :
  Inv X pins σ (upd H p (.lst ys)) { s with heap:=s.heap.update p f,toks:=t }:=by
 have e:(s.heap.update p f).get? p=some { cls := .type "list",data := .seq its'.toArray n' }:=by
  rw[jd f ho (by rw[hf] <;> rfl),hf]
 refine I.write (x:=p) (e:=p) (by rw[h];trivial) (.inl rfl) (λb u hb q=>(xg _ _ (iw hb)).trans q) ⟨_,e⟩ ?_
 exact⟨hz,its',n',r,e⟩
def eO:V->V->V->Hp->(Hp->Prop)->Prop:=λo i v H Q=>∃p xs k j,o = .ref p/\i = .int k/\H p=some (.lst xs)/\ixN xs.length k=some j/\Q (upd H p (.lst (xs.set j v)))
theorem fH:aLi X eO:=by
 intro pins s σ H o i v ov iv u Q I ro ri rv h
 obtain⟨p,xs,k,j,rfl,rfl,hp,hj,q⟩:=h
 cases ro
 obtain⟨t,rfl⟩:=ri
 obtain⟨its,n,r,ho,hz⟩:=I.lst hp
 obtain⟨h1,h2,h3,h4⟩:=aBO hj
 have hl:=r.length
 have hn:=aAy
 have I':Inv X pins σ (upd H p (.lst (xs.set j v))) { s with heap:=s.heap.update p (jz (·.setIfInBounds j u)) }:=
  I.lstUpd hp ho (aBj its n j u) (r.set rv j) (by rw[df];exact hz) s.toks
 by_cases h0:0<=k
 ·have hk:k.toNat=j:=by
   rw[AL h0 h4] at h1
   exact az h1
  exact PySem.W.ki_setAt ho h0 (by omega) (by rw[ar,<- hl];exact h4) (by rw[hk];exact⟨_,I',q⟩)
 ·have hk:(k+(its.toArray.size:Int)).toNat=j:=by
   rw[Ax (by omega) h3] at h1
   rw[ar,<- hl]
   exact az h1
  exact PySem.W.ki_setBack ho (by omega) (by rw[ar,<- hl];exact h3) (by omega) (by rw[hk];exact⟨_,I',q⟩)
theorem vL (lo hi:Option Int)(n:Nat):(qm lo hi none n).1=((HT.sIx n 0 lo:Nat):Int)/\(qm lo hi none n).2.1=((HT.sIx n n hi:Nat):Int)/\(qm lo hi none n).2.2=1:=by
 refine⟨?_,?_,rfl⟩
 ·cases lo with
  |none=>simp[qm,HT.sIx]
  |some i=>
   simp only[qm,HT.sIx,Option.getD_none,show(1:Int) > 0 by decide,if_true]
   by_cases h:i<0
   ·simp only[h,if_true] <;> omega
   ·simp only[h,if_false] <;> omega
 ·cases hi with
  |none=>simp[qm,HT.sIx]
  |some i=>
   simp only[qm,HT.sIx,Option.getD_none,show(1:Int) > 0 by decide,if_true]
   by_cases h:i<0
   ·simp only[h,if_true] <;> omega
   ·simp only[h,if_false] <;> omega
theorem uJ (its:List Value)(lo hi:Option Int):slicePick its.toArray lo hi none=((its.drop (HT.sIx its.length 0 lo)).take (HT.sIx its.length its.length hi - HT.sIx its.length 0 lo)).toArray:=by
 obtain⟨h1,h2,h3⟩:=vL lo hi its.toArray.size
 unfold slicePick
 rw[h1,h2,h3]
 simp only[sliceRange_one,pick_run,ar] <;> rfl
def aLf (K:ae):V->Option Int->Option Int->Hp->VK->Prop:=λx lo hi H Q=>∃a xs,x = .ref a/\SqL K H a xs/\∀p,H p=none->Q (.ref p) (upd H p (.lst (vB xs lo hi)))
theorem aGJ:SlR X (aLf X.K):=by
 intro pins s σ H x v vl vu lo hi sl Q I rx hs pl pu h
 obtain⟨a,xs,rfl,hx,q⟩:=h
 cases rx
 obtain⟨its,r,ht,hz⟩:=I.list hx
 have hlen:=r.length
 refine⟨"list",_,slot_list_getitem.lookup,ht.isList.typeIs,?_⟩
 refine wpAny_getItem_list_slice ht.isList hs pl pu .none (by simp) ?_ (by rw[ar] <;> omega)
 rw[uJ,<- hlen]
 refine⟨.ref s.heap.objs.size,_,I.laid (t':=s.toks) (o := .lst (vB xs lo hi)) (λb ob q=>aj _ q) (ba _) ?_,rfl,q _ (I.hok.fresh (ba _))⟩
 exact⟨c9 (oO xs lo hi) hz,_,0,(r.drop (HT.sIx xs.length 0 lo)).take (HT.sIx xs.length xs.length hi - HT.sIx xs.length 0 lo),ay _ rfl⟩
def sY:V->Bool
 | .non=>true
 | .bl _=>true
 | .int _=>true
 | .str _=>true
 |_=>false
def eqV:V->V->Bool
 | .non, .non=>true
 | .bl a, .bl b=>a == b
 | .bl a, .int b=>(if a then 1 else 0) == b
 | .int a, .bl b=>a == (if b then 1 else 0)
 | .int a, .int b=>a == b
 | .str a, .str b=>a == b
 |_,_=>false
theorem aHG {A:Around}{s:Shared}{y x:V}{u v:Value}(ry:RelV y u)(rx:RelV x v)(fy:sY y=true)(fx:sY x=true):gi A s u v (eqV y x):=by
 cases y with
 |non=>
  cases ry
  cases x with
  |non=>cases rx;exact SeqAt.EqAt.same _
  |bl b=>cases rx;exact SeqAt.EqAt.none_bool b
  |int b=>obtain⟨t,rfl⟩:=rx;exact SeqAt.EqAt.none_int b t
  |str b=>obtain⟨t,rfl⟩:=rx;exact SeqAt.EqAt.none_str b t
  |_=>exact absurd (show false=true from fx) bq
 |bl a=>
  cases ry
  cases x with
  |non=>cases rx;exact SeqAt.EqAt.bool_none a
  |bl b=>cases rx;exact SeqAt.EqAt.bool_bool a b
  |int b=>obtain⟨t,rfl⟩:=rx;exact SeqAt.EqAt.bool_int a b t
  |str b=>obtain⟨t,rfl⟩:=rx;exact SeqAt.EqAt.bool_str a b t
  |_=>exact absurd (show false=true from fx) bq
 |int a=>
  obtain⟨t',rfl⟩:=ry
  cases x with
  |non=>cases rx;exact SeqAt.EqAt.int_none a t'
  |bl b=>cases rx;exact SeqAt.EqAt.int_bool a t' b
  |int b=>obtain⟨t,rfl⟩:=rx;exact uv a t' b t
  |str b=>obtain⟨t,rfl⟩:=rx;exact SeqAt.EqAt.int_str a t' b t
  |_=>exact absurd (show false=true from fx) bq
 |str a=>
  obtain⟨t',rfl⟩:=ry
  cases x with
  |non=>cases rx;exact SeqAt.EqAt.str_none a t'
  |bl b=>cases rx;exact SeqAt.EqAt.str_bool a t' b
  |int b=>obtain⟨t,rfl⟩:=rx;exact SeqAt.EqAt.str_int a t' b t
  |str b=>obtain⟨t,rfl⟩:=rx;exact SeqAt.EqAt.str_str a t' b t
  |_=>exact absurd (show false=true from fx) bq
 |_=>exact absurd (show false=true from fy) bq
def eqU (x:V) (u:Value):Bool:=match u with
 | .none=>eqV .non x
 | .bool b=>eqV (.bl b) x
 | .int i _=>eqV (.int i) x
 | .str z _=>eqV (.str z) x
 |_=>false
theorem aEY {x y:V}{u:Value}(r:RelV y u)(f:sY y=true):eqU x u=eqV y x:=by
 cases y with
 |non=>cases r;rfl
 |bl b=>cases r;rfl
 |int i=>obtain⟨t,rfl⟩:=r;rfl
 |str z=>obtain⟨t,rfl⟩:=r;rfl
 |_=>exact absurd (show false=true from f) bq
theorem pQ {x:V}:∀{xs:List V}{us:List Value},Vals xs us->xs.all sY=true->us.any (eqU x)=xs.any λy=>eqV y x
 |_,_, .nil,_=>rfl
 |y :: xs,u :: us, .cons r t,f=>by
  rw[sf,b7] at f
  rw[nj,nj,aEY r f.1,pQ t f.2]
theorem kS {A:Around}{s:Shared}{x:V}{v:Value}(rx:RelV x v)(fx:sY x=true):∀{xs:List V}{us:List Value},Vals xs us->xs.all sY=true->∀u∈us,gi A s u v (eqU x u)
 |_,_, .nil,_=>λu hu=>by cases hu
 |y :: xs,u :: us, .cons r t,f=>λu' hu=>by
  rw[sf,b7] at f
  rcases cm.mp hu with rfl | hu
  ·rw[aEY r f.1];exact aHG r rx f.1 fx
  ·exact kS rx fx t f.2 u' hu
def inV (x:V) (xs:List V):Bool:=xs.any λy=>eqV y x
def rIn (K:ae) (neg:Bool):R2:=λx y H Q=>∃p xs,y = .ref p/\(SqL K H p xs\/SqT K H p xs)/\sY x=true/\xs.all sY=true/\Q (.bl (if neg then !inV x xs else inV x xs)) H
theorem aCJ:OpR X (gj .In) (rIn X.K false):=by
 intro pins s σ H x y v u Q I rx ry h
 obtain⟨p,xs,rfl,hq,fx,fs,q⟩:=h
 cases ry
 rcases hq with hq | hq
 ·obtain⟨its,r,pl,hz⟩:=I.list hq
  refine SeqAt.in_listAt (eqU x) pl.isList (λw hw=>kS rx fx r fs w (by simpa using hw)) ⟨.bl _,H,I,rfl,?_⟩
  rw[show its.toArray.any (eqU x)=its.any (eqU x) by simp,pQ r fs]
  exact q
 ·obtain⟨its,r,pl,hz⟩:=I.tuple hq
  refine SeqAt.in_tupleAt (eqU x) pl (λw hw=>kS rx fx r fs w (by simpa using hw)) ⟨.bl _,H,I,rfl,?_⟩
  rw[show its.toArray.any (eqU x)=its.any (eqU x) by simp,pQ r fs]
  exact q
theorem mK:OpR X (gj .NotIn) (rIn X.K true):=by
 intro pins s σ H x y v u Q I rx ry h
 obtain⟨p,xs,rfl,hq,fx,fs,q⟩:=h
 cases ry
 rcases hq with hq | hq
 ·obtain⟨its,r,pl,hz⟩:=I.list hq
  refine SeqAt.notIn_listAt (eqU x) pl.isList (λw hw=>kS rx fx r fs w (by simpa using hw)) ⟨.bl _,H,I,rfl,?_⟩
  rw[show its.toArray.any (eqU x)=its.any (eqU x) by simp,pQ r fs]
  exact q
 ·obtain⟨its,r,pl,hz⟩:=I.tuple hq
  refine zg (eqU x) pl (λw hw=>kS rx fx r fs w (by simpa using hw)) ⟨.bl _,H,I,rfl,?_⟩
  rw[show its.toArray.any (eqU x)=its.any (eqU x) by simp,pQ r fs]
  exact q
theorem xF:CallR X (.builtin "len") (λxs H Q=>∃p ys,xs=[.ref p]/\(SqL X.K H p ys\/SqT X.K H p ys)/\Q (.int ys.length) H):=by
 intro pins s σ H xs us Q I r h
 obtain⟨p,ys,rfl,hq,q⟩:=h
 obtain⟨u,rfl,rx⟩:=aAX r
 cases rx
 have hn:=aAy
 rcases hq with hq | hq
 ·obtain⟨its,r',pl,hz⟩:=I.list hq
  have hlen:=r'.length
  exact Calls.call_len_list pl.isList (by simp only[ar] <;> omega) ⟨.int ys.length,H,I.tok _,⟨s.toks+1,by rw[ar,hlen]⟩,q⟩
 ·obtain⟨its,r',pl,hz⟩:=I.tuple hq
  have hlen:=r'.length
  exact len_tuple pl (by simp only[ar] <;> omega) ⟨.int ys.length,H,I.tok _,⟨s.toks+1,by rw[ar,hlen]⟩,q⟩
theorem CallR.or {f:Value}{r r':List V->Hp->VK->Prop}(h:CallR X f r)(h':CallR X f r'):CallR X f (λxs H Q=>r xs H Q\/r' xs H Q):=by
 intro pins s σ H xs us Q I rs q
 rcases q with q | q
 ·exact h pins s σ H xs us Q I rs q
 ·exact h' pins s σ H xs us Q I rs q
theorem vT:CallR X (.type "list") (λxs H Q=>∃p ys,xs=[.ref p]/\(SqL X.K H p ys\/SqT X.K H p ys)/\∀l,H l=none->Q (.ref l) (upd H l (.lst ys))):=by
 intro pins s σ H xs us Q I r h
 obtain⟨p,ys,rfl,hq,q⟩:=h
 obtain⟨u,rfl,rx⟩:=aAX r
 cases rx
 have fin:∀(its:List Value),Vals ys its->ys.length<=bx->∀(h':Heap) (c':Nat),(∀b o',s.heap.get? b=some o'->h'.get? b=some o') ->
   h'.get? s.heap.objs.size=some { cls := .type "list",dict:=none,data := .seq its.toArray c',slots:=#[] }->EP X pins σ Q (.ref s.heap.objs.size) { s with heap:=h' }:=λits r' hz h' c' kp e=>
  ⟨.ref s.heap.objs.size,_,I.laid (t':=s.toks) kp (ba _) (show ObjOk X.prog X.w _ h' _ (.lst ys) from⟨hz,its,c',r',e⟩),rfl,q _ (I.hok.fresh (ba _))⟩
 rcases hq with hq | hq
 ·obtain⟨its,r',pl,hz⟩:=I.list hq
  have hlen:=r'.length
  obtain⟨o,ho,hc,n,hd⟩:=pl.isList
  exact call_list_seq p (.inl rfl) ho hc hd (λh' c' kp e=>fin its r' hz h' c' kp e) (by simp only[ar] <;> omega)
 ·obtain⟨its,r',pl,hz⟩:=I.tuple hq
  have hlen:=r'.length
  obtain⟨o,ho,hc,n,hd⟩:=pl
  exact call_list_seq p (.inr rfl) ho hc hd (λh' c' kp e=>fin its r' hz h' c' kp e) (by simp only[ar] <;> omega)
theorem tI:CallR X (.type "tuple") (λxs H Q=>∃p ys,xs=[.ref p]/\((SqL X.K H p ys/\∀l,H l=none->Q (.ref l) (upd H l (.tup ys)))\/(SqT X.K H p ys/\Q (.ref p) H))):=by
 intro pins s σ H xs us Q I r h
 obtain⟨p,ys,rfl,h⟩:=h
 obtain⟨u,rfl,rx⟩:=aAX r
 cases rx
 rcases h with⟨hq,q⟩ | ⟨hq,q⟩
 ·obtain⟨its,r',pl,hz⟩:=I.list hq
  have hlen:=r'.length
  refine call_tuple_list pl.isList (λh' kp=>?_) (by simp only[ar] <;> omega)
  have I1:Inv X pins σ H { s with heap:=h' }:=I.kept (t':=s.toks) kp
  have I2:Inv X pins σ (upd H h'.objs.size (.tup ys)) { s with heap:=h'.push { cls := .type "tuple",data := .seq its.toArray } }:=
   I1.laid (t':=s.toks) (λb o e=>aj _ e) (ba _) (show ObjOk X.prog X.w _ _ _ (.tup ys) from⟨hz,its,r',TupN.new _ _⟩)
  exact⟨.ref h'.objs.size,_,I2,rfl,q _ (I1.hok.fresh (ba _))⟩
 ·obtain⟨its,r',pl,hz⟩:=I.tuple hq
  exact call_tuple_same pl ⟨.ref p,H,I,rfl,q⟩
def tyV (K:ae) (T:String) (x:V) (H:Hp):Prop:=match x with
 | .str _=>T="str"
 | .int _=>T="int"
 | .ref p=>(T="list"/\∃xs,SqL K H p xs)\/(T="tuple"/\∃o,K.lookup p=some o/\o.cls = .type "tuple"/\o.dict=none) \/
   (T="dict"/\((∃kvs,H p=some (.dK kvs))\/∃kvs,H p=some (.dT kvs)))\/(T="set"/\∃S n,H p=some (.set S n))
 |_=>False
theorem aEZ {pins:List (Addr×Obj)}{σ:St}{H:Hp}{s:Shared}{T:String}{x:V}{v:Value}(I:Inv X pins σ H s)(r:RelV x v)(ty:tyV X.K T x H) :
  s.TypeIs v T/\∀a,v = .ref a->∃ob,s.heap.get? a=some ob/\ob.dict=none:=by
 cases x with
 |str z=>
  obtain⟨t,rfl⟩:=r
  cases (show T="str" from ty)
  exact⟨typeIs_str s z t,λ_ e=>nomatch e⟩
 |int i=>
  obtain⟨t,rfl⟩:=r
  cases (show T="int" from ty)
  exact⟨typeIs_int s i t,λ_ e=>nomatch e⟩
 |ref p=>
  cases r
  rcases ty with⟨rfl,xs,hq⟩ | ⟨rfl,o,hk,hc,hd⟩ | ⟨rfl,hk⟩ | ⟨rfl,S,n,hk⟩
  ·obtain⟨its,_,pl,_⟩:=I.list hq
   refine⟨pl.isList.typeIs,λa e=>?_⟩
   cases e
   obtain⟨o,n,e,c,hd,_⟩:=pl
   exact⟨o,e,hd⟩
  ·refine⟨⟨o,I.kIn p o hk,hc⟩,λa e=>?_⟩
   cases e
   exact⟨o,I.kIn _ o hk,hd⟩
  ·have z:∃o,s.heap.get? p=some o/\o.ExactDict:=by
    rcases hk with⟨kvs,hk⟩ | ⟨kvs,hk⟩
    ·obtain⟨_,_,_,_,o,_,_,e,ex,_⟩:=I.hok p _ hk
     exact⟨o,e,ex⟩
    ·obtain⟨_,_,_,_,o,_,_,e,ex,_⟩:=I.hok p _ hk
     exact⟨o,e,ex⟩
   obtain⟨o,e,ex⟩:=z
   refine⟨⟨o,e,ex.1⟩,λa e2=>?_⟩
   cases e2
   exact⟨o,e,ex.2.1⟩
  ·obtain⟨o,_,_,_,e,ex,_⟩:=I.hok p _ hk
   refine⟨⟨o,e,ex.1⟩,λa e2=>?_⟩
   cases e2
   exact⟨o,e,ex.2.1⟩
 |_=>exact lq ty
def aJW (K:ae) (T:String) (r:V->List V->Hp->VK->Prop) (to:TE):TE:=λσ H Q=>to σ H λx H1=>tyV K T x H1/\r x [] H1 Q
def tBM (K:ae) (T:String) (r:V->List V->Hp->VK->Prop) (to:TE) (t:TA):TE:=λσ H Q=>to σ H λx H1=>tyV K T x H1/\t σ H1 λxs H2=>r x xs H2 Q
variable {o e:Expr}{es:List Expr}{to:TE}{t:TA}{name:Str}{apos cpos:Pos}{T id:String}{r:V->List V->Hp->VK->Prop}
theorem aHn (pa:PlainAttrs T)(slot:Slot T name id)(hty:typeOf (.builtin id)=pure (.type "method_descriptor"))(hm:MtR X id r)(ho:PE X o to)
  (hbase:wj o name X.env (eval o X.env)=eval o X.env:=by rfl) (hline:(apos.endLine == cpos.line)=true:=by rfl):PE X (.Call (.Attribute o name apos) [] [] cpos) (aJW X.K T r to):=by
 intro pins s σ H Q I h
 refine wpAny_Call_method0_late hbase hline (thn (ho pins s σ H _ I h) λv s1 ⟨x,H1,I1,r1,ty,q1⟩=>?_)
 obtain⟨h1,h2⟩:=aEZ I1 r1 ty
 exact⟨T,id,pa,slot,hty,h1,h2,xh rfl (PySem.evalArgs_none (hm pins s1 σ H1 x [] v [] Q I1 r1 .nil q1))⟩
theorem aKx (pa:PlainAttrs T)(slot:Slot T name id)(hty:typeOf (.builtin id)=pure (.type "method_descriptor"))(hm:MtR X id r)(ho:PE X o to)(ha:PA X (e :: es) t)
  (hbase:wj o name X.env (eval o X.env)=eval o X.env:=by rfl)
  (hfew:((vo cpos (fi (e :: es) X.env)).all (λx=>!x.1) && (backToKw cpos (keywordEach [] X.env)).all (λx=>x.1.isSome)
   && decide ((e :: es).length+([]:List Keyword).length+(if([]:List Keyword).isEmpty then 0 else 1)<30))=true:=by rfl)
  (hline:(apos.endLine == cpos.line)=true:=by rfl) (hs:fi (e :: es) X.env=(false,eval e X.env) :: fi es X.env:=by rfl) (hplain:(vo cpos (fi es X.env)).any (·.1)=false:=by rfl) :
  PE X (.Call (.Attribute o name apos) (e :: es) [] cpos) (tBM X.K T r to t):=by
 intro pins s σ H Q I h
 refine wpAny_Call_method_late hbase hfew hline rfl (thn (ho pins s σ H _ I h) λv s1 ⟨x,H1,I1,r1,ty,q1⟩=>?_)
 obtain⟨h1,h2⟩:=aEZ I1 r1 ty
 refine⟨T,id,pa,slot,hty,h1,h2,?_⟩
 have hA:=ha cpos pins s1 σ H1 _ I1 q1
 rw[hs] at hA ⊢
 refine xh (by show(false || (vo cpos (fi es X.env)).any (·.1))=false;rw[hplain] <;> rfl) (yu ?_)
 exact thn hA λus s2 ⟨vs,H2,I2,r2,q2⟩=>hm pins s2 σ H2 x vs v us Q I2 r1 r2 q2
end
def MtM (X:Cx) (id:String) (r:V->List V->Hp->VK->Prop):Prop:=
 ∀(pins:List (Addr×Obj)) (s:Shared) (σ:St) (H:Hp) (x:V) (xs:List V) (v:Value) (us:List Value) (Q:VK),Inv X pins σ H s->RelV x v->Vals xs us->r x xs H Q ->
  wpAny (model X.prog X.w) X.A (call (.builtin id) (v :: us)) (EP X pins σ Q) X.xe s
theorem Vals.one:∀{x:V}{us:List Value},Vals [x] us->∃u,us=[u]/\RelV x u
 |_,_, .cons r .nil=>⟨_,rfl,r⟩
theorem Vals.two:∀{x y:V}{us:List Value},Vals [x,y] us->∃u v,us=[u,v]/\RelV x u/\RelV y v
 |_,_,_, .cons r (.cons q .nil)=>⟨_,_,rfl,r,q⟩
theorem Vals.zero:∀{us:List Value},Vals [] us->us=[]
 |_, .nil=>rfl
theorem Vals.rep {xs:List V}{us:List Value}(h:Vals xs us):∀k:Nat,Vals (dg k xs).flatten (dg k us).flatten
 |0 => .nil
 |k+1=>by
  rw[mf,mf,qo,qo]
  exact Vals.append h (Vals.rep h k)
theorem vC (its:List Value):∀(k:Nat) (acc:List Value),
  List.foldl (λx1 x2=>x1++x2) acc.toArray (dg k its.toArray)=(acc++(dg k its).flatten).toArray
 |0,acc=>by simp
 |k+1,acc=>by
  have e:acc.toArray++its.toArray=(acc++its).toArray:=by simp
  have e2:(acc++its)++(dg k its).flatten=acc++(dg (k+1) its).flatten:=by
   rw[mf,qo,gz]
  rw[<- e2,<- vC its k (acc++its),<- e,mf,List.foldl_cons]
section
variable {X:Cx}{pins:List (Addr×Obj)}{σ:St}{H:Hp}{s:Shared}{l b:Addr}{xs ys zs:List V}
theorem Inv.lset {its its':List Value}{n:Nat}{f:Array Value->Array Value}{t':Nat}(I:Inv X pins σ H s)(hH:H l=some (.lst xs))
  (e:s.heap.get? l=some { cls := .type "list",data := .seq its.toArray n }) (hf:f its.toArray=its'.toArray) (hv:Vals ys its') (hz:ys.length<=bx) :
  Inv X pins σ (upd H l (.lst ys)) { s with heap:=s.heap.update l (jz f),toks:=t' }:=by
 have q:=PySem.IsL.update e f
 rw[hf] at q
 refine I.write (x:=l) (e:=l) (by rw[hH];exact trivial) (.inl rfl) (λb' u hb hu=>(xg s.heap (jz f) (iw hb)).trans hu) ⟨_,q⟩ ?_
 exact⟨hz,its',_,hv,q⟩
theorem Inv.lnew {its:List Value}{t':Nat}(I:Inv X pins σ H s)(hv:Vals ys its)(hz:ys.length<=bx) :
  Inv X pins σ (upd H s.heap.objs.size (.lst ys)) { s with heap:=s.heap.push { cls := .type "list",data := .seq its.toArray },toks:=t' }:=
 I.laid (λ_ _ q=>aj _ q) (ba _) ⟨hz,its,0,hv,ay _ rfl⟩
theorem Inv.fresh (I:Inv X pins σ H s):H s.heap.objs.size=none:=I.hok.fresh (ba _)
theorem Inv.lstM (I:Inv X pins σ H s)(hH:H l=some (.lst xs)):xs.length<=bx/\∃(its:List Value) (n:Nat),Vals xs its/\xs.length=its.length/\s.heap.get? l=some { cls := .type "list",data := .seq its.toArray n }:=by
 obtain⟨z,its,n,r,e⟩:=I.hok l _ hH
 exact⟨z,its,n,r,r.length,e⟩
theorem aDX {n:Nat}(h:n<=bx):pf n=false:=by
 unfold pf
 exact decide_eq_false (by omega)
end
section
variable {X:Cx}
def lH:V->List V->Hp->VK->Prop:=λx vs H Q=>∃l xs y,x = .ref l/\vs=[y]/\H l=some (.lst xs)/\xs.length<bx/\Q .non (upd H l (.lst (xs++[y])))
theorem gG:MtM X "list.append" lH:=by
 intro pins s σ H x vs v us Q I rx rv h
 obtain⟨l,xs,y,rfl,rfl,hH,hz,q⟩:=h
 cases rx
 obtain⟨u,rfl,ru⟩:=rv.one
 obtain⟨z,its,n,r,hl,e⟩:=I.lstM hH
 refine Ak F.slot_list_append ⟨_,e,rfl⟩ F.entry_list_append (F.args_list_append_2 _ _) (PySem.list_append l its.toArray n u (by rw[ar];omega)) ⟨e,?_⟩
 refine⟨.non,_,I.lset (its':=its++[u]) hH e (by simp) (r.append (.cons ru .nil)) ?_,rfl,q⟩
 rw[bc,xo]
 omega
def aFp:V->List V->Hp->VK->Prop:=λx vs H Q=>∃l xs,x = .ref l/\vs=[]/\H l=some (.lst xs)/\Q .non (upd H l (.lst []))
theorem aDJ:MtM X "list.clear" aFp:=by
 intro pins s σ H x vs v us Q I rx rv h
 obtain⟨l,xs,rfl,rfl,hH,q⟩:=h
 cases rx
 have hus:=rv.zero
 subst hus
 obtain⟨z,its,n,r,hl,e⟩:=I.lstM hH
 refine Ak F.slot_list_clear ⟨_,e,rfl⟩ F.entry_list_clear (F.args_list_clear_1 _) (AutoSeq1.list_clear_list_0 l its.toArray n (by rw[ar];omega)) ⟨e,?_⟩
 exact⟨.non,_,I.lset (its':=[]) (ys:=[]) hH e rfl .nil (av _),rfl,q⟩
def aKV:R2:=λx y H Q=>∃l b xs zs,x = .ref l/\y = .ref b/\H l=some (.lst xs)/\H b=some (.lst zs)/\xs.length+zs.length<=bx/\∀p,H p=none->Q (.ref p) (upd H p (.lst (xs++zs)))
theorem aIv:OpR X (lh .Add) aKV:=by
 intro pins s σ H x y v u Q I rx ry h
 obtain⟨l,b,xs,zs,rfl,rfl,hH,hB,hz,q⟩:=h
 cases rx
 cases ry
 obtain⟨z,its,n,r,hl,e⟩:=I.lstM hH
 obtain⟨z2,its2,n2,r2,hl2,e2⟩:=I.lstM hB
 refine PySem.P.add_list e e2 ?_ (by rw[ar,ar];omega)
 have ea:its.toArray++its2.toArray=(its++its2).toArray:=by simp
 rw[ea]
 exact⟨.ref _,_,I.lnew (t':=s.toks) (r.append r2) (by rw[bc];omega),rfl,q _ I.fresh⟩
def aKY:R2:=λx y H Q=>∃l k xs,x = .ref l/\y = .int k/\H l=some (.lst xs)/\-(2 ^ 63)<=k/\k<2 ^ 63/\xs.length*k.toNat<=bx /\
 ∀p,H p=none->Q (.ref p) (upd H p (.lst (dg k.toNat xs).flatten))
theorem aGK {α:Type}(xs:List α)(k:Nat):(dg k xs).flatten.length=k*xs.length:=by
 induction k with
 |zero=>simp
 |succ k ih=>rw[mf,qo,bc,ih,Nat.succ_mul,Nat.add_comm]
theorem aIM:OpR X (lh .Mult) aKY:=by
 intro pins s σ H x y v u Q I rx ry h
 obtain⟨l,k,xs,rfl,rfl,hH,h1,h2,hz,q⟩:=h
 cases rx
 obtain⟨t,rfl⟩:=ry
 obtain⟨z,its,n,r,hl,e⟩:=I.lstM hH
 have hlen:its.toArray.size*k.toNat<=bx:=by rw[ar,<- hl];exact hz
 have hcap:¬ its.toArray.size*k.toNat > (2 ^ 63 - 1) / 8:=by
  have:(bx:Nat)<=(2 ^ 63 - 1) / 8:=by decide
  omega
 have hfit:¬ (!Builtin.List.listFitsIndex k)=true:=by
  rw[fitsIndex_both h1 h2]
  exact bq
 have hlong:¬ pf (its.toArray.size*k.toNat)=true:=by
  rw[aDX hlen]
  exact bq
 have hnew:List.foldl (λx1 x2=>x1++x2) #[] (dg (if its.toArray.isEmpty=true then 0 else k.toNat) its.toArray)=(dg k.toNat its).flatten.toArray:=by
  have f0:∀m:Nat,List.foldl (λx1 x2=>x1++x2) #[] (dg m its.toArray)=(dg m its).flatten.toArray:=λm=>by
   have:=vC its m []
   rw[List.nil_append] at this
   exact this
  rw[f0]
  cases its with
  |nil=>simp
  |cons a r'=>rw[if_neg (by simp)]
 refine wpAny_binaryOp_repeat_ref (T:="list") (U:="int") (by decide) ⟨_,e,rfl⟩ (λs'=>typeIs_int s' k t) noFill_list_mul F.fills_int_mul F.slot_int_rmul repeat_list F.slot_int_index.lookup
  (Ak F.slot_int_rmul (typeIs_int s k t) F.entry_int_rmul (F.args_int_rmul_2 _ _) (int___rmul___int_list k t l its.toArray n)
   ⟨e,rfl,⟨_,e,rfl⟩,Ak F.slot_list_mul ⟨_,e,rfl⟩ F.entry_list_mul (F.args_list_mul_2 _ _) (AutoListH.list___mul___list_int_3 l its.toArray n k t hfit hcap hlong) ⟨e,?_⟩⟩)
 rw[hnew]
 exact⟨.ref _,_,I.lnew (t':=s.toks) (r.rep k.toNat) (by rw[aGK,Nat.mul_comm];exact hz),rfl,q _ I.fresh⟩
end
section
variable {prog:Program}{w:World}{A:Around}{E:Value->Shared->Prop}{s:Shared}
end
section
variable {X:Cx}
end
end L2
namespace Att
open PySem PySem.W PySem.Calls PyProof.Rows
theorem oS {P:Params}{h:Heap}:∀(ns:List Int) (vs:List Value),WellAll P h vs (ns.map WData.int)->IntsAre vs ns:=by
 intro ns
 induction ns with
 |nil=>
  intro vs w
  rw[uw] at w
  cases w
  exact .nil
 |cons n ns ih=>
  intro vs w
  rw[c4] at w
  cases w with
  |cons a b=>
   cases a
   exact .cons _ _ (ih _ b)
theorem aBI {l:OpenLaw}{n:Nat}(hn:l.most=some n){P:Params}{h:Heap}{args:List WData}{vals:List Value}
  (hpre:l.row.toRowW.claim.pre args=true) (hwl:WellAll P h vals args) :
  ∃a vs ns,vals=[Value.ref a]/\args=[WData.list (ns.map WData.int)]/\h.get? a=some { cls := .type "list",data := .seq vs.toArray }/\IntsAre vs ns/\ns.length<=n:=by
 have hsh:WShape.hasAll [] args [.list .int]=true:=(pre_splitW hpre).1
 have hc:l.pre.holds [] { args:=args }=true:=(pre_splitW hpre).2
 obtain⟨d,r,rfl,h1,h2⟩:=hasAllW_cons hsh
 obtain rfl:=hasAllW_nil h2
 obtain⟨xs,rfl,h3⟩:=hasW_list h1
 obtain⟨ns,rfl⟩:=items_int h3
 have hlen:ns.length<=n:=by
  unfold OpenLaw.pre at hc
  have h4:(WTm.not (.lt (.lit (.int (n:Int))) (.len (.arg 0)))).holds [] { args:=[.list (ns.map .int)] }=true:=by
   have h4:=(holds_andW hc).1
   rw[hn] at h4
   exact h4
  have h5:=condW_of h4 (w_not (w_lt w_lit (w_len_list (w_arg rfl))))
  rw[af] at h5
  refine Nat.le_of_not_lt λq=>?_
  have q':(n:Int)<((ns.length:Nat):Int):=by omega
  first
   | (rw[decide_eq_true q'] at h5;exact absurd h5 (by decide))
   | (simp at h5;omega)
 cases hwl with
 |cons w1 w2=>
  cases w2
  cases w1 with
  |list ho hall=>exact⟨_,_,ns,rfl,rfl,ho,oS ns _ hall,hlen⟩
theorem aBN (l:OpenLaw)(args:List WData):l.row.toRowW.claim.post args (.bool true) args=true:=
 postW_of (r:=l.row.toRowW) (X:=(true == true))
  (show WShape.has [] (.bool true) .bool=true by first | rfl | decide | simp[WShape.has,WShape.arms,WShape.armsAll])
  (show(WTm.eq .res (.lit (.bool true))).value [] { args:=args,res:=some (.bool true),after:=args }=some (.bool (true == true)) from w_eq_bool (w_res rfl) w_lit) rfl
theorem attach_call {l:OpenLaw}{n:Nat}{q:Program}{loose:List Str}{XP:(Str->Option Value)->Heap->Prop}{YP:World->Heap->Prop}{d:DefRec}
  (hn:l.most=some n) (hdf:d.params.defaults=[])
  (call:∀(w:World) (s₀ s₁:Shared) (mg mb:Str->Option Value) (fa:Addr) (o:Obj) (pm cd doc:Value) (a:Addr) (vs:List Value) (ns:List Int),
   Ground q loose [] XP w s₀ mg mb s₁.heap->YP w s₁.heap ->
   s₁.heap.get? fa=some o->o.data = .func (docDef d.name d.params d.body d.scope pm cd doc)->s₁.heap.CodeRec cd d.name->mg d.name=some (.ref fa) ->
   s₁.heap.get? a=some { cls := .type "list",data := .seq vs.toArray }->IntsAre vs ns->ns.length<=n->s₁.gens=#[] ->
   wg (model l.prog w) An (.call (.ref fa) ⟨[.ref a],[]⟩) (λr s'=>r = .ok (.ret (.bool true))/\OldK s₁.heap s'.heap/\s'.os=s₁.os/\wa s'.gens) s₁) :
  WalkO q loose XP YP l.row.toRowW d [] (λf vs=>PySem.call f vs):=by
 intro w s₀ s₁ mg mb G Y fa o pm cd doc dV kV ho hd hcd hD hmg hg args vals as hpre hlay hrd hwl hlo
 obtain rfl:dV = .none:=Dflts.none hD hdf
 obtain rfl:kV = .none:=Dflts.noKw hD
 obtain⟨a,vs,ns,rfl,rfl,hobj,hints,hlen⟩:=aBI hn hpre hwl
 refine enter_call (jm (call w s₀ s₁ mg mb fa o pm cd doc a vs ns G Y ho (fd_plain hd) hcd hmg hobj hints hlen hg) λr s' hq=>?_)
 obtain⟨rfl,h2,h3,h4⟩:=hq
 exact⟨.inl ⟨.bool true, .bool true,[],rfl,λ_=>rfl, .bool true,aBN l _,λ_=>⟨List.Pairwise.nil,λ_ hm=>(nomatch hm)⟩⟩,h2,h3,h4⟩
section
variable {prog:Program}{w:World}{A:Around}{E:Value->Shared->Prop}{s:Shared}{K:Frag}
end
end Att
namespace L2
open PySem PySem.Spec PyProof.Rows
theorem vP:∀{vs:List Value}{ns:List Int},IntsAre vs ns->Vals (ns.map V.int) vs
 |_,_, .nil => .nil
 |_,_, .cons n t h => .cons ⟨t,rfl⟩ (vP h)
def aJP (H:Hp):Prop:=∀b,H b=none\/∃o xs,H b=some (.frz o (.lst xs))
theorem aEB {P:Program}{w:World}{K:ae}{mg mb:Str->Option Value}{CX:CXT}{k:Nat}{fa a:Addr}{fd:FuncData}{x:Str}{sp:Sp}{s₁:Shared}{vs:List Value}{ns:List Int}
  (KX:K.In s₁.heap) (hns:s₁.heap.Ns c7 mg) (hb:s₁.heap.Ns Af mb) (hbb:∀x:Str,x≠"__name__"->mb x=e9 x) (hlim:s₁.heap.NoLimit) (hg:s₁.gens=#[])
  (ha:s₁.heap.get? a=some { cls := .type "list",data := .seq vs.toArray }) (hi:IntsAre vs ns) (hl:ns.length<=bx) (hr:Room k An)
  (F:∀base:Heap,K.In base->base.Ns c7 mg->FnOk P w K mg base CX k fa fd [x] sp) (hbind:∀(s:Shared) (u:Value),Ai s fd ⟨[u],[]⟩ [(x,u)])
  (hsp:∀H:Hp,aJP H->SqL K H a (ns.map V.int)->sp [.ref a] H (λv _=>v = .bl true) λ_ _ _=>False)
  (hCX:∀H e s',CX [] H s₁ (λ_ _ _=>False) e s'->False) :
  wg (model P w) An (.call (.ref fa) ⟨[.ref a],[]⟩) (λr s'=>r = .ok (.ret (.bool true))/\OldK s₁.heap s'.heap/\s'.os=s₁.os/\wa s'.gens) s₁:=by
 have rv:=vP hi
 have lenV:=hi.length
 have core:∀H:Hp,aJP H->SqL K H a (ns.map V.int)->HOk P w H s₁.heap->(∀b,H b≠none->b=a)->(H a≠none->K.lookup a=none) ->
   wg (model P w) An (.call (.ref fa) ⟨[.ref a],[]⟩) (λr s'=>r = .ok (.ret (.bool true))/\OldK s₁.heap s'.heap/\s'.os=s₁.os/\wa s'.gens) s₁:=by
  intro H hO hS hok hA hK
  have base_of:∀{b:Addr}{o:Obj},s₁.heap.get? b=some o->H b=none->(aEb s₁.heap H).get? b=some o:=λe n=>aEt e n
  have noA:∀{b:Addr}{o:Obj}{es:Array DictEntry}{ep:Nat},s₁.heap.get? b=some o->o.data = .dict es ep->H b=none:=λ{b o es ep} e d=>by
   cases q:H b with
   |none=>rfl
   |some u=>
    have e':b=a:=hA b (by rw[q];simp)
    subst e'
    rw[ha] at e;cases e
    have d':Data.seq vs.toArray _=Data.dict es ep:=d
    cases d'
  have nsK:∀{b:Addr}{m:Str->Option Value},s₁.heap.Ns b m->(aEb s₁.heap H).Ns b m:=λ{b m} ⟨o,es,ep,e,d,r⟩=>⟨o,es,ep,base_of e (noA e d),d,r⟩
  have hKb:K.In (aEb s₁.heap H):=λb o e=>base_of (KX b o e) (by
   cases q:H b with
   |none=>rfl
   |some u=>
    have e':b=a:=hA b (by rw[q];simp)
    subst e'
    rw[hK (by rw[q];simp)] at e;cases e)
  have hM:Mod K mg (aEb s₁.heap H):=⟨hKb,nsK hns,⟨mb,nsK hb,hbb⟩,let⟨mc,h1,h2⟩:=hlim;⟨mc,nsK h1,h2⟩⟩
  have e0:aJh P w K mg (aEb s₁.heap H) An [] s₁ H:=⟨rfl,hM,λb o e=>aGx e,Nat.le_of_eq (aCs _ _),trivial,λb hb=>absurd (show b∈([]:List Addr) from hb) (by simp),hok, .of_eq hg⟩
  refine jm ((F _ hKb (nsK hns)).run An [] s₁ H ⟨[.ref a],[]⟩ [.ref a] [.ref a] _ _ hr e0 (hbind s₁ (.ref a)) (.cons rfl .nil) (hsp H hO hS)) λr s' h=>?_
  cases r with
  |error e=>exact(hCX H e s' h).elim
  |ok fl=>
   cases fl with
   |next=>exact lq h
   |brk=>exact lq h
   |cont=>exact lq h
   |ret u=>
    obtain⟨v,H',os,bare,un,hok',r',q⟩:=h
    have q':v = .bl true:=q
    subst q'
    obtain rfl:u=Value.bool true:=r'
    refine⟨rfl,OldK.of_keep λb o e=>?_,os,bare⟩
    cases q:H b with
    |none=>exact un.keep b o e q (by intro z;exact absurd (show b∈([]:List Addr) from z) (by simp)) (by simp)
    |some u=>
     rcases hO b with z | ⟨ob,xs,z⟩
     ·rw[q] at z;cases z
     ·have z2:=un.frzs b ob _ z
      obtain⟨e1,_⟩:=hok b _ z
      obtain⟨e2,_⟩:=hok' b _ z2
      rw[e] at e1;cases e1
      exact e2
 cases hk:K.lookup a with
 |some o=>
  have e:=KX a o hk
  rw[ha] at e
  cases e
  refine core (λ_=>none) (λ_ => .inl rfl) (.inr ⟨_,vs.toArray,_,hk,rfl,rfl,rfl,by rw[ar,lenV];exact hl,by simpa using rv⟩) (λb u z=>by have z':(none:Option HO)=some u:=z;cases z') (λb z=>absurd rfl z) λz=>absurd rfl z
 |none=>
  refine core (λb=>if b=a then some (.frz { cls := .type "list",data := .seq vs.toArray } (.lst (ns.map V.int))) else none) (λb=>?_) (.inl (.inr ⟨{ cls := .type "list",data := .seq vs.toArray },if_pos rfl⟩)) (λb u z=>?_) (λb z=>?_) λ_=>hk
  ·by_cases hb:b=a
   ·exact .inr ⟨_,_,if_pos hb⟩
   ·exact .inl (if_neg hb)
  ·by_cases hb:b=a
   ·have z':=(if_pos hb).symm.trans z
    cases z'
    subst hb
    exact⟨ha,by rw[af];exact hl,vs,_,rv,ha⟩
   ·have z':=(if_neg hb).symm.trans z
    cases z'
  ·by_cases hb:b=a
   ·exact hb
   ·exact absurd (if_neg hb) z
theorem aGN {l:PySem.W.OpenLaw}{n k:Nat}{q:Program}{loose:List Str}{XP:(Str->Option Value)->Heap->Prop}{YP:World->Heap->Prop}{d:DefRec}{K:Params->ae}{CX:World->CXT}{sp:World->Sp}{x:Str}
  (hn:l.most=some n) (hn2:n<=bx) (hdf:d.params.defaults=[]) (hr:Room k An)
  (hY:∀(w:World) (h:Heap),YP w h->(K w.params).In h)
  (F:∀(w:World) (mg:Str->Option Value) (fa:Addr) (h:Heap),(K w.params).In h->h.Ns c7 mg->mg d.name=some (.ref fa) ->
   ∃fd:FuncData,(∀(s:Shared) (u:Value),Ai s fd ⟨[u],[]⟩ [(x,u)]) /\
    ∀base:Heap,(K w.params).In base->base.Ns c7 mg->FnOk l.prog w (K w.params) mg base (CX w) k fa fd [x] (sp w))
  (hsp:∀(w:World) (H:Hp) (a:Addr) (ns:List Int),ns.length<=n->aJP H->SqL (K w.params) H a (ns.map V.int)->sp w [.ref a] H (λv _=>v = .bl true) λ_ _ _=>False)
  (hCX:∀(w:World) (H:Hp) (s:Shared) (e:Value) (s':Shared),CX w [] H s (λ_ _ _=>False) e s'->False) :
  PySem.W.WalkO q loose XP YP l.row.toRowW d [] (λf vs=>PySem.call f vs):=by
 refine Att.attach_call hn hdf λw s₀ s₁ mg mb fa o pm cd doc a vs ns G Y ho hd hcd hmg hobj hints hlen hg=>?_
 have KX:=hY w _ Y
 obtain⟨fd,hb,hF⟩:=F w mg fa _ KX G.T.g hmg
 exact aEB KX G.T.g G.T.b G.T.builtins G.T.nolimit hg hobj hints (c9 hlen hn2) hr hF hb (λH hO hS=>hsp w H a ns hlen hO hS) λH e s'=>hCX w H s₁ e s'
def gB (s:Stmt):Arguments:=match s with
 | .FunctionDef _ a _ _ _ _ _ _ _ _=>a
 |_=>{ posonlyargs:=[],args:=[],vararg:=none,kwonlyargs:=[],kw_defaults:=[],kwarg:=none,defaults:=[] }
def eE (s:Stmt):List Stmt:=match s with
 | .FunctionDef _ _ b _ _ _ _ _ _ _=>b
 |_=>[]
def cB (s:Stmt):Scope:=match s with
 | .FunctionDef _ _ _ _ _ _ sc _ _ _=>sc
 |_=>{ kind := .function,names:=[],isGenerator:=false,isCoroutine:=false }
abbrev CX0:CXT:=λ_ _ _ _ _ _=>False
abbrev E0:XK:=λ_ _ _=>False
theorem aJY {X:Cx}:qX CX0 X E0:=λ_ _ _ _ _ _ _ h=>h.elim
structure Fun (K:ae)(x qual:Str)(st:Stmt)(f:Addr)(fd:FuncData):Prop where
 ex:∃(oc:Value) (od:Option Addr) (kV doc pm:Value) (an:Option Addr) (cdv ct:Value) (osl:Array (Option Value)),
  fd=jx x qual (gB st) (eE st) (cB st) .none kV doc pm an cdv ct/\K.lookup f=some ⟨oc,od, .func fd,osl⟩/\ve K cdv qual=true
 kp:n5 K (.ref f)=true
section
variable {P:Program}{w:World}{K:ae}{mg:Str->Option Value}{base:Heap}
theorem Fun.ok {x qual:Str}{st:Stmt}{f:Addr}{fd:FuncData}{N ps:List Str}{k:Nat}{sp:Sp}(F:Fun K x qual st f fd)(S:lE N ps (cB st))(len:∀vs H Q E,sp vs H Q E->vs.length=ps.length)
  (hbody:∀(cdv:Value) (A:Around) (outer:List Env) (s:Shared) (H:Hp) (vs:List V) (Q:VK) (E:XK),Room k (A.deeper (xn qual (cB st) s.heap.objs.size f cdv))->sp vs H Q E ->
   ∃t,PSs (xT CX0 P w K mg base N qual (cB st) f cdv A outer s H E).nox (eE st) t/\t { nx:=λ_ H'=>Q .non H',rt:=Q } (bR N vs) H):FnOk P w K mg base CX0 (k+1) f fd ps sp:=by
 obtain⟨oc,od,kV,doc,pm,an,cdv,ct,osl,rfl,lk,hcd⟩:=F.ex
 refine aHD lk hcd S len λA outer s H vs Q E hr hsp=>?_
 obtain⟨t,h,q⟩:=hbody cdv A outer s H vs Q E hr hsp
 exact⟨t,h.nox,q⟩
theorem Fun.binds {x qual:Str}{st:Stmt}{f:Addr}{fd:FuncData}{ps:List Str}(F:Fun K x qual st f fd)
  (h:∀(kV doc pm:Value) (an:Option Addr) (cdv ct:Value) (us:List Value),us.length=ps.length->yr (jx x qual (gB st) (eE st) (cB st) .none kV doc pm an cdv ct) ⟨us,[]⟩=pure (ps.zip us)):Binds K fd ps []:=by
 obtain⟨oc,od,kV,doc,pm,an,cdv,ct,osl,rfl,lk,hcd⟩:=F.ex
 exact .all (h kV doc pm an cdv ct)
theorem aAj {x qual:Str}{st:Stmt}{f:Addr}{oc:Value}{od an:Option Addr}{osl:Array (Option Value)}{kV doc pm cdv ct:Value}(l:K.lookup f=some ⟨oc,od, .func (jx x qual (gB st) (eE st) (cB st) .none kV doc pm an cdv ct),osl⟩)
  (c:ve K cdv qual=true) (k:n5 K (.ref f)=true):Fun K x qual st f (jx x qual (gB st) (eE st) (cB st) .none kV doc pm an cdv ct):=⟨⟨oc,od,kV,doc,pm,an,cdv,ct,osl,rfl,l,c⟩,k⟩
end
section
variable {X:Cx}
theorem pv (i:Nat){x:Str}{pos:Pos}(hN:X.N[i]?=some x:=by rfl)(hv:Vis X.env.scope x:=by first | exact Or.inl rfl | exact Or.inr (Or.inl rfl) | exact Or.inr (Or.inr rfl))(hd:(x == ("__debug__" : Str))=false:=by decide)
  (hcd:(x == ("__classdict__" : Str))=false:=by decide):PE X (.Name x pos) (aD i):=aIq hN hv hd hcd
end
theorem aLD {A B:Prop}(h:B):if false=true then A else B:=by
 rw[if_neg bq]
 exact h
theorem nQ {c A B:Prop}[Decidable c](h1:c->A)(h2:¬ c->B):if c then A else B:=by
 by_cases h:c
 ·rw[if_pos h]
  exact h1 h
 ·rw[if_neg h]
  exact h2 h
def Same (H H':Hp):Prop:=∀b o,H b=some o->H' b=some o
theorem Same.refl (H:Hp):Same H H:=λ_ _ h=>h
theorem Same.trans {H H1 H2:Hp}(a:Same H H1)(b:Same H1 H2):Same H H2:=λc o h=>b c o (a c o h)
theorem Same.free {H H':Hp}(e:Same H H'){l:Addr}(h:H' l=Option.none):H l=Option.none:=by
 cases q:H l with
 |none=>rfl
 |some o=>
  rw[e l o q] at h
  cases h
theorem Same.seq {K:ae}{H H':Hp}{a:Addr}{xs:List V}(e:Same H H')(h:SqL K H a xs):SqL K H' a xs:=by
 rcases h with(h | ⟨o,h⟩) | h
 ·exact .inl (.inl (e _ _ h))
 ·exact .inl (.inr ⟨o,e _ _ h⟩)
 ·exact .inr h
section
variable {κ:Type}[DecidableEq κ]
def aCv (kvs:List (κ×V)) (k:κ):Option V:=(kvs.find? λkv=>decide (kv.1=k)).map (·.2)
def aFh (kvs:List (κ×V)) (k:κ) (v:V):List (κ×V):=
 if(kvs.any λkv=>decide (kv.1=k))=true then kvs.map (λkv=>if kv.1=k then(kv.1,v) else kv) else kvs++[(k,v)]
theorem aAc {p:κ×V}{r:List (κ×V)}{k:κ}(e:p.1=k):aCv (p :: r) k=some p.2:=by simp[aCv,t7,e]
theorem aAT {p:κ×V}{r:List (κ×V)}{k:κ}(e:¬ p.1=k):aCv (p :: r) k=aCv r k:=by simp[aCv,t7,e]
theorem aAw (k:κ):∀kvs:List (κ×V),(kvs.any λkv=>decide (kv.1=k))=(aCv kvs k).isSome
 |[]=>rfl
 |p :: r=>by
  rw[nj]
  by_cases e:p.1=k
  ·simp only[aAc e,decide_eq_true e,Ay,Option.isSome_some]
  ·rw[aAT e,decide_eq_false e,sk];exact aAw k r
theorem RelO.isSome_eq {o:Option V}{u:Option Value}(r:RelO o u):o.isSome=u.isSome:=by
 cases o with
 |none=>cases u with
  |none=>rfl
  |some _=>exact(show False from r).elim
 |some _=>cases u with
  |none=>exact(show False from r).elim
  |some _=>rfl
theorem KV.any {kvs:List (κ×V)}{vs:List (κ×Value)}(r:KV kvs vs)(k:κ):(kvs.any λkv=>decide (kv.1=k))=vs.any λkv=>decide (kv.1=k):=by
 unfold KV at r
 induction r with
 |nil=>rfl
 |cons h t ih=>rw[nj,nj,ih,h.1]
theorem KV.repl {kvs:List (κ×V)}{vs:List (κ×Value)}(r:KV kvs vs)(k:κ){y:V}{u:Value}(ry:RelV y u) :
  KV (kvs.map λkv=>if kv.1=k then(kv.1,y) else kv) (vs.map λkv=>if kv.1=k then(kv.1,u) else kv):=by
 unfold KV at r ⊢
 induction r with
 |nil=>exact .nil
 | @cons p q ps qs h t ih=>
  rw[c4,c4]
  refine .cons ?_ ih
  obtain⟨h1,h2⟩:=h
  by_cases e:p.1=k
  ·rw[if_pos e,if_pos (h1.symm.trans e)];exact⟨h1,ry⟩
  ·rw[if_neg e,if_neg (λz=>e (h1.trans z))];exact⟨h1,h2⟩
theorem KV.put {kvs:List (κ×V)}{vs:List (κ×Value)}(r:KV kvs vs)(k:κ){y:V}{u:Value}(ry:RelV y u):KV (aFh kvs k y) (stored vs k u):=by
 unfold aFh stored
 rw[r.any k]
 by_cases e:(vs.any λkv=>decide (kv.1=k))=true
 ·rw[if_pos e,if_pos e];exact r.repl k ry
 ·rw[if_neg e,if_neg e];exact Paired.snoc r ⟨rfl,ry⟩
theorem KV.length {kvs:List (κ×V)}{vs:List (κ×Value)}(r:KV kvs vs):kvs.length=vs.length:=Paired.length r
end
abbrev KT (H:Hp):List (List Key×V)->List (List Key×Addr×Value)->Prop:=Paired λp q=>p.1=q.1/\H q.2.1=some (.tup (p.1.map kV))/\RelV p.2 q.2.2
theorem KT.val {H:Hp}{kvs:List (List Key×V)}{xs:List (List Key×Addr×Value)}(r:KT H kvs xs)(k:List Key):RelO (aCv kvs k) ((atKey xs k).map (·.2)):=by
 induction r with
 |nil=>exact True.intro
 | @cons p q ps qs h t ih=>
  obtain⟨h1,_,h2⟩:=h
  by_cases e:p.1=k
  ·have e':q.1=k:=h1.symm.trans e
   have b:atKey (q :: qs) k=some q.2:=by simp[atKey,t7,e']
   rw[aAc e,b];exact h2
  ·have e':¬ q.1=k:=λz=>e (h1.trans z)
   have b:atKey (q :: qs) k=atKey qs k:=by simp[atKey,t7,e']
   rw[aAT e,b];exact ih
theorem KT.repl {H:Hp}{kvs:List (List Key×V)}{xs:List (List Key×Addr×Value)}(r:KT H kvs xs)(k:List Key){y:V}{u:Value}(ry:RelV y u) :
  KT H (kvs.map λkv=>if kv.1=k then(kv.1,y) else kv) (xs.map (putAt k u)):=by
 induction r with
 |nil=>exact .nil
 | @cons p q ps qs h t ih=>
  rw[c4,c4]
  refine .cons ?_ ih
  obtain⟨h1,h2,h3⟩:=h
  unfold putAt
  by_cases e:p.1=k
  ·rw[if_pos e,if_pos (h1.symm.trans e)];exact⟨h1,h2,ry⟩
  ·rw[if_neg e,if_neg (λz=>e (h1.trans z))];exact⟨h1,h2,h3⟩
theorem KT.put {H:Hp}{kvs:List (List Key×V)}{xs:List (List Key×Addr×Value)}(r:KT H kvs xs)(k:List Key){b:Addr}{y:V}{u:Value}(hb:H b=some (.tup (k.map kV)))(ry:RelV y u) :
  KT H (aFh kvs k y) (storedH xs k b u):=by
 have e:(kvs.any λkv=>decide (kv.1=k))=(atKey xs k).isSome:=by
  rw[aAw,(r.val k).isSome_eq,Option.isSome_map]
 unfold aFh storedH
 rw[e]
 by_cases q:(atKey xs k).isSome=true
 ·rw[if_pos q,if_pos q];exact r.repl k ry
 ·rw[if_neg q,if_neg q];exact Paired.snoc r ⟨rfl,hb,ry⟩
section
variable {P:Program}{w:World}{H:Hp}{h:Heap}{a:Addr}
end
def DGet (H:Hp) (a:Addr) (y:V) (r:Option V):Prop:=
 (∃kvs k,Rd H a (.dK kvs)/\y=kV k/\r=aCv kvs k)\/∃kvs k b,Rd H a (.dT kvs)/\y = .ref b/\H b=some (.tup (k.map kV))/\r=aCv kvs k
def DPut (H:Hp) (a:Addr) (y v:V) (H':Hp):Prop:=
 (∃kvs k,H a=some (.dK kvs)/\y=kV k/\kvs.length<bx/\H'=upd H a (.dK (aFh kvs k v))) \/
 ∃kvs k b,H a=some (.dT kvs)/\y = .ref b/\H b=some (.tup (k.map kV))/\kvs.length<bx/\H'=upd H a (.dT (aFh kvs k v))
theorem DGet.k {H:Hp}{a:Addr}{kvs:List (Key×V)}{k:Key}(e:H a=some (.dK kvs)):DGet H a (kV k) (aCv kvs k) := .inl ⟨kvs,k, .inl e,rfl,rfl⟩
theorem DGet.t {H:Hp}{a b:Addr}{kvs:List (List Key×V)}{k:List Key}(e:H a=some (.dT kvs))(eb:H b=some (.tup (k.map kV))):DGet H a (.ref b) (aCv kvs k) := .inr ⟨kvs,k,b, .inl e,rfl,eb,rfl⟩
theorem DPut.k {H:Hp}{a:Addr}{kvs:List (Key×V)}{k:Key}{v:V}(e:H a=some (.dK kvs))(hl:kvs.length<bx):DPut H a (kV k) v (upd H a (.dK (aFh kvs k v))) := .inl ⟨kvs,k,e,rfl,hl,rfl⟩
theorem DPut.t {H:Hp}{a b:Addr}{kvs:List (List Key×V)}{k:List Key}{v:V}(e:H a=some (.dT kvs))(eb:H b=some (.tup (k.map kV)))(hl:kvs.length<bx) :
  DPut H a (.ref b) v (upd H a (.dT (aFh kvs k v))) := .inr ⟨kvs,k,b,e,rfl,eb,hl,rfl⟩
section
variable {X:Cx}{pins:List (Addr×Obj)}{σ:St}{H:Hp}{s:Shared}{a:Addr}{y v:V}{u r:Value}{o:Option V}{A:Around}{E:Value->Shared->Prop}
end
section
variable {X:Cx}{pins:List (Addr×Obj)}{σ:St}{H:Hp}{s:Shared}{a:Addr}{kvs:List (Key×V)}{k:Key}{u:Value}{A:Around}{E:Value->Shared->Prop}
end
section
variable {X:Cx}{o i e value:Expr}{pos pos' tpos:Pos}{td ty tv:TE}
end
section
variable {X:Cx}{pos:Pos}
end
section
variable {X:Cx}{pins:List (Addr×Obj)}{σ:St}{H:Hp}{s:Shared}{a:Addr}{y d:V}{u r:Value}{o:Option V}{A:Around}{E:Value->Shared->Prop}
end
section
variable {X:Cx}{o e f:Expr}{apos cpos:Pos}{td ty tx:TE}
end
section
variable {X:Cx}{pins:List (Addr×Obj)}{σ:St}{H:Hp}{s:Shared}{a:Addr}{kvs:List (Key×V)}{A:Around}{E:Value->Shared->Prop}
end
section
variable {X:Cx}{pins:List (Addr×Obj)}{σ:St}{H:Hp}{s:Shared}{a:Addr}{y:V}{u:Value}{A:Around}{E:Value->Shared->Prop}
end
section
variable {X:Cx}
end
section
variable {κ:Type}[DecidableEq κ]
theorem xV:∀{l:List κ}{k:κ},l.Nodup->¬ k∈l->(l++[k]).Nodup
 |[],k,_,_=>by simp
 |a :: r,k,h,hk=>by
  obtain⟨h1,h2⟩:=iz.mp h
  show(a :: (r++[k])).Nodup
  refine iz.mpr ⟨λm=>?_,xV h2 λm=>hk (cm.mpr (Or.inr m))⟩
  rcases du.mp m with q | q
  ·exact h1 q
  ·exact hk (cm.mpr (Or.inl (dw.mp q).symm))
end
def gL (J:It) (g:TG) (tb:TS):TS:=λD σ H=>∃W:Nat->Nat->St->Hp->Prop,(∃m,W 0 m σ H)/\∀i m σ H,W i m σ H ->
 (J.stop i H/\D.nx σ H)\/(J.go i H/\∃N:St->Hp->Prop,(∀σ' H',N σ' H'->∃m',m'<m/\W (i+1) m' σ' H')/\∀x H',J.yld i H x H'->g x σ H' λσ2 H2=>tb { D with nx:=N,ct:=N,bk:=D.nx } σ2 H2)
def wC (elt:Expr) (gens:List Comprehension) (scope:Scope) (pos:Pos) (d:Nat) (acc:Value) (env:Env) (k:Sem Fin):Sem Fin:=
 match gens[d+1]? with
 |some g'=>eval g'.iter env >>= λx=>AJ g'.iter.pos >>= λ_=>ni g'.iter env x >>= λx=>Ag [x] (zv x) >>= λi=>
   runOwn (.compStart (.ListComp elt gens scope pos) (d+1) i acc env) env >>= λ_=>k
 |none=>(eval elt env >>= λx=>call (.builtin "list.append") [acc,x] >>= λ_=>pure ()) >>= λ_=>k
theorem zQ {elt target iter:Expr}{ifs:List Expr}{gens:List Comprehension}{scope:Scope}{pos:Pos}{d:Nat}(it acc:Value)(env:Env)(hg:gens[d]?=some ⟨target,iter,ifs,0⟩)
  (hn:∀g',gens[d+1]?=some g'->g'.is_async=0) :
  compTurn (.ListComp elt gens scope pos) d it acc env=(AJ iter.pos >>= λ_=>qh it >>= λr=>match r with
   |none=>pure (.done .next)
   |some v=>tu target it v >>= λ_=>Au target env v >>= λ_=>
    (forIn ifs true λc r=>if r=true then do let ok <- isTrue c env (eval c env);pure (ForInStep.yield ok) else pure (ForInStep.yield r)) >>= λok=>
     if ok=true then wC elt gens scope pos d acc env (again (.compLoop (.ListComp elt gens scope pos) d it acc env))
     else again (.compLoop (.ListComp elt gens scope pos) d it acc env)):=by
 unfold compTurn wC
 simp only[hg]
 cases h:gens[d+1]? with
 |none=>rfl
 |some g'=>
  obtain⟨t',i',f',a'⟩:=g'
  have e:a'=0:=hn _ h
  subst e
  rfl
def iG:List TT->TS->TS
 |[],tb=>tb
 |c :: r,tb=>dP c (iG r tb) aK
inductive PTs (X:Cx):List Expr->List TT->Prop
 |nil:PTs X [] []
 |cons {c:Expr}{cs:List Expr}{t:TT}{ts:List TT}:PT X c t->PTs X cs ts->PTs X (c :: cs) (t :: ts)
section
variable {X:Cx}
theorem zG {cs:List Expr}{s:Shared}{Q:Bool->Shared->Prop}{E:Value->Shared->Prop}(h:Q false s) :
  wpAny (model X.prog X.w) X.A (forIn cs false λc r=>if r=true then do let ok <- isTrue c X.env (eval c X.env);pure (ForInStep.yield ok) else pure (ForInStep.yield r)) Q E s:=by
 induction cs with
 |nil=>rw[kg];exact ao h
 |cons c cs ih=>
  rw[i4,if_neg bq]
  exact aa (ao ih)
theorem vV {tb:TS}{D:mB}{pins:List (Addr×Obj)}:∀{cs:List Expr}{ts:List TT},PTs X cs ts->∀{s:Shared}{σ:St}{H:Hp},Inv X pins σ H s->iG ts tb D σ H ->
  wpAny (model X.prog X.w) X.A (forIn cs true λc r=>if r=true then do let ok <- isTrue c X.env (eval c X.env);pure (ForInStep.yield ok) else pure (ForInStep.yield r))
   (λok s'=>∃H',Inv X pins σ H' s'/\if ok=true then tb D σ H' else D.nx σ H') X.xe s
 |_,_, .nil,s,σ,H,I,h=>by rw[kg];exact ao ⟨H,I,by rw[if_pos rfl];exact h⟩
 |_,_, .cons (cs:=cs) hc hr,s,σ,H,I,h=>by
  rw[i4,if_pos rfl]
  refine aa (aa (thn (hc pins s σ H _ I h) λb s1 ⟨H1,I1,q1⟩=>ao ?_))
  cases b with
  |true=>
   rw[if_pos rfl] at q1
   exact vV hr I1 q1
  |false=>
   rw[if_neg bq] at q1
   exact zG ⟨H1,I1,by rw[if_neg bq];exact q1⟩
end
def PB (X:Cx) (elt:Expr) (gens:List Comprehension) (scope:Scope) (pos:Pos) (d:Nat) (acc:Addr) (t:TS):Prop:=
 ∀(pins:List (Addr×Obj)) (s:Shared) (σ:St) (H:Hp) (D:mB) (k:Sem Fin) (Q:Fin->Shared->Prop) (E:Value->Shared->Prop),Inv X pins σ H s->t D σ H ->
  (∀s' σ' H',Inv X pins σ' H' s'->D.nx σ' H'->wpAny (model X.prog X.w) X.A k Q E s')->wpAny (model X.prog X.w) X.A (wC elt gens scope pos d (.ref acc) X.env k) Q E s
def cP (te:TE) (acc:Addr):TS:=λD σ H=>te σ H λx H1=>∃xs,H1 acc=some (.lst xs)/\xs.length<bx/\D.nx σ (upd H1 acc (.lst (xs++[x])))
section
variable {X:Cx}
theorem bG {elt:Expr}{gens:List Comprehension}{scope:Scope}{pos:Pos}{d:Nat}{acc:Addr}{te:TE}(hx:X.xe=λ_ _=>False)(he:PE X elt te)(hl:gens[d+1]?=none):PB X elt gens scope pos d acc (cP te acc):=by
 intro pins s σ H D k Q E I h hk
 unfold wC
 rw[hl]
 refine aa (aa (jl (he pins s σ H _ I h) (λv s1 ⟨x,H1,I1,r1,xs,ha,hz,q⟩=>?_) λ_ _ z=>by rw[hx] at z;exact z.elim))
 have hm:=gG (X:=X) pins s1 σ H1 (.ref acc) [x] (.ref acc) [v] (λv H'=>v = .non/\D.nx σ H') I1 rfl (.cons r1 .nil) ⟨acc,xs,x,rfl,rfl,ha,hz,rfl,q⟩
 refine aa (jl hm (λ_ s2 ⟨x2,H2,I2,r2,_,q2⟩=>ao (hk s2 σ H2 I2 q2)) λ_ _ z=>by rw[hx] at z;exact z.elim)
theorem wN {elt target iter:Expr}{ifs:List Expr}{gens:List Comprehension}{scope:Scope}{pos:Pos}{d:Nat}{acc it:Addr}{fp:List Addr}{tn:Nat->Heap->Prop}{J:It}{g:TG}{ts:List TT}{tb:TS}{D:mB}{pins:List (Addr×Obj)}{s:Shared}{σ:St}{H:Hp}
  (hx:X.xe=λ_ _=>False) (hc:X.calm=true) (hgd:gens[d]?=some ⟨target,iter,ifs,0⟩) (hn:∀g',gens[d+1]?=some g'->g'.is_async=0)
  (hg:PG X target g) (hts:PTs X ifs ts) (hb:PB X elt gens scope pos d acc tb)
  (T:aEW X.prog X.w X.K target J fp it tn) (I:Inv X pins σ H s) (st:tn 0 s.heap) (hf:∀b∈fp,FpOk X pins H b) (h:gL J g (iG ts tb) D σ H) :
  wg (model X.prog X.w) X.A (.compStart (.ListComp elt gens scope pos) d (.ref it) (.ref acc) X.env) (λr s'=>∃f,r = .ok f/\∃σ' H',Inv X pins σ' H' s'/\D.nx σ' H') s:=by
 have stat:∀{H':Hp},(∀b∈fp,H' b=none)->∀b∈fp,FpOk X pins H' b:=λhn b hb=>⟨hn b hb,(hf b hb).2⟩
 obtain⟨W,⟨m0,w0⟩,turn⟩:=h
 have E0:∀(e:Value) (s':Shared),X.xe e s'->notedBy (model X.prog X.w) X.A X.env (λe s'=>∃f,(Except.error e:w6) = .ok f/\∃σ' H',Inv X pins σ' H' s'/\D.nx σ' H') e s':=λe s' z=>by rw[hx] at z;exact z.elim
 have loop:wg (model X.prog X.w) X.A (.compLoop (.ListComp elt gens scope pos) d (.ref it) (.ref acc) X.env) (λr s'=>∃f,r = .ok f/\∃σ' H',Inv X pins σ' H' s'/\D.nx σ' H') s:=by
  refine codeAny_loop rfl (λn s'=>∃i σ' H',Inv X pins σ' H' s'/\tn i s'.heap/\(∀b∈fp,H' b=none)/\W i n σ' H') ?_ m0 ⟨0,σ,H,I,st,λb hb=>(hf b hb).1,w0⟩
  rintro n s3 ⟨i,σ3,H3,I3,st3,fr3,w3⟩
  show wpAny _ X.A ((compTurn (.ListComp elt gens scope pos) d (.ref it) (.ref acc) X.env).onRaise (λx=>do noteFrame x X.env;theTreesLotGoes x)) _ _ s3
  refine wpAny_noted ?_
  rw[zQ _ _ _ hgd hn]
  refine aa (qa (aa ?_))
  rcases turn i n σ3 H3 w3 with⟨stop,qn⟩ | ⟨go,N,hN,step⟩
  ·refine jl (T.done X rfl rfl rfl hc i pins s3 σ3 H3 (λ_ _=>False) I3 (stat fr3) st3 stop) (λr s4 ⟨hr,I4⟩=>?_) (λ_ _ z=>z.elim)
   subst hr
   exact ao ⟨.next,rfl,σ3,H3,I4,qn⟩
  ·refine jl (T.item X rfl rfl rfl hc i pins s3 σ3 H3 (λ_ _=>False) I3 (stat fr3) st3 go) (λr s4 ⟨u,hr,h4⟩=>?_) (λ_ _ z=>z.elim)
   subst hr
   refine aa (jl h4 (λ_ s5 ⟨x,H5,I5,r5,y5,st5,fr5⟩=>?_) (λ_ _ z=>z.elim))
   have I5':=I5.pinned (stat fr5) (T.obj _ _ st5)
   refine aa (jl (hg _ s5 σ3 H5 x u _ I5' r5 (step x H5 y5)) (λ_ s6 ⟨σ6,H6,I6,q6⟩=>?_) E0)
   refine aa (jl (vV hts I6 q6) (λok s7 ⟨H7,I7,q7⟩=>?_) E0)
   have again:∀{σ7:St}{H7:Hp}{s7:Shared},Inv X (pins++wJ fp s5.heap) σ7 H7 s7->N σ7 H7->∃m,m<n/\∃i σ' H',Inv X pins σ' H' s7/\tn i s7.heap/\(∀b∈fp,H' b=none)/\W i m σ' H':=λ{σ7 H7 s7} I7 n7=>by
    obtain⟨m',hm,w7⟩:=hN σ7 H7 n7
    refine⟨m',hm,i+1,σ7,H7,I7.unpinned,T.keep _ _ _ st5 λb hb o e=>(I7.pin (b,o) (di _ (di _ (iV hb e)))).1,λb hb=>?_,w7⟩
    obtain⟨o,e,d⟩:=T.obj _ _ st5 b hb
    exact(I7.pin (b,o) (di _ (di _ (iV hb e)))).2.1
   cases ok with
   |false=>
    rw[if_neg bq] at q7 ⊢
    exact ao ⟨rfl,again I7 q7⟩
   |true=>
    rw[if_pos rfl] at q7 ⊢
    exact hb _ s7 σ6 H7 _ _ _ _ I7 q7 λs8 σ8 H8 I8 q8=>ao ⟨rfl,again I8 q8⟩
 refine t8 ?_
 show wpAny _ _ ((compStart (.ListComp elt gens scope pos) d (.ref it) (.ref acc) X.env).onRaise (λx=>do noteFrame x X.env;AJ theWindowsPlace)) _ _ s
 refine wpAny_notedAt ?_
 have hcl:clausesOf (.ListComp elt gens scope pos)=gens:=rfl
 unfold compStart
 rw[hcl,hgd]
 show wpAny _ _ (ask >>= _) _ _ s
 refine aa (i8 (wpAny_ite ?_))
 split
 ·first
   |exact aa (ao (ao (And.intro rfl loop)))
   |exact ao (And.intro rfl loop)
 ·refine aa (nh ?_)
  show wpAny _ _ (AJ iter.pos >>= _) _ _ s
  exact aa (qa (aa (T.self X.A 0 s _ _ st (ao (And.intro rfl loop)))))
theorem aBG {elt target iter:Expr}{ifs:List Expr}{gens:List Comprehension}{scope:Scope}{pos:Pos}{d:Nat}{acc:Addr}{wi:TI}{g:TG}{ts:List TT}{tb:TS}
  (hx:X.xe=λ_ _=>False) (hc:X.calm=true) (hgd:gens[d+1]?=some ⟨target,iter,ifs,0⟩) (hn:∀g',gens[d+2]?=some g'->g'.is_async=0)
  (hi:PI X target iter wi) (hg:PG X target g) (hts:PTs X ifs ts) (hb:PB X elt gens scope pos (d+1) acc tb) (hs:∀x,ni iter X.env x=pure x:=by intro _;rfl) :
  PB X elt gens scope pos d acc (kL wi g (iG ts tb)):=by
 intro pins s σ H D k Q E I h hk
 unfold wC
 rw[hgd]
 have EX:∀(e:Value) (s':Shared),X.xe e s'->E e s':=λe s' z=>by rw[hx] at z;exact z.elim
 refine aa (jl (hi pins s σ H (λJ H1=>gL J g (iG ts tb) D σ H1) I h) (λv s1 h1=>?_) EX)
 refine aa (qa (aa (qp (hs v) (aa (fq (jl h1 (λitv s2 h2=>?_) EX))))))
 obtain⟨it,fp,tn,J,H2,e,I2,T,st2,f2,q2⟩:=h2
 subst e
 refine aa (wpAny_runOwn (jm (wN hx hc hgd hn hg hts hb T I2 st2 f2 q2) λr s3 ⟨f,hr,σ3,H3,I3,q3⟩=>?_))
 subst hr
 exact hk s3 σ3 H3 I3 q3
end
def fN (cells:List (Str×Addr)):List (Str×NameKind)->List (Str×Addr)->List (Str×Addr)
 |[],acc=>acc
 | (n,k) :: r,acc=>if k == .free then fN cells r ((n,(cells.lookup n).getD 0) :: acc) else fN cells r acc
theorem qP {scope:Scope}{env:Env}(h:∀x∈scope.names,x.2 = .free->(env.cells.lookup x.1).isSome=true):closureFor scope env=pure (fN env.cells scope.names []):=by
 have go:∀(names:List (Str×NameKind)) (acc:List (Str×Addr)),(∀x∈names,x.2 = .free->(env.cells.lookup x.1).isSome=true) ->
   (forIn names acc λx (r:List (Str×Addr))=>if x.2 == NameKind.free then(do let c <- cellOf env x.1;pure (ForInStep.yield ((x.1,c) :: r))) else pure (ForInStep.yield r):Sem (List (Str×Addr)))=pure (fN env.cells names acc):=by
  intro names
  induction names with
  |nil=>intro acc _;rw[kg];rfl
  |cons x r ih=>
   intro acc hh
   obtain⟨n,k⟩:=x
   rw[i4]
   unfold fN
   cases hk:k == NameKind.free with
   |false=>
    rw[if_neg bq,if_neg bq]
    exact ih acc λy hy=>hh y (bf _ hy)
   |true=>
    rw[if_pos rfl,if_pos rfl]
    obtain⟨c,hc⟩:=jc.mp (hh (n,k) bp (by simpa using hk))
    have e:cellOf env n=pure c:=by
     unfold cellOf
     rw[show env.cells.lookup n=some c from hc]
    show(do let x <- (do let c <- cellOf env n;pure (ForInStep.yield ((n,c) :: acc)));_)=_
    rw[e]
    rw[show((env.cells.lookup n).getD 0)=c by rw[show env.cells.lookup n=some c from hc];rfl]
    exact ih ((n,c) :: acc) λy hy=>hh y (bf _ hy)
 have:=go scope.names [] h
 unfold closureFor
 refine Eq.trans ?_ (congrArg (λm=>m >>= λr=>pure r) this |>.trans rfl)
 rfl
theorem pJ {cells:List (Str×Addr)}{x:Str}:∀(names:List (Str×NameKind)) (acc:List (Str×Addr)),(x,NameKind.free)∉names->(fN cells names acc).lookup x=acc.lookup x
 |[],_,_=>rfl
 | (n,k) :: r,acc,h=>by
  unfold fN
  have hr:(x,NameKind.free)∉r:=λz=>h (bf _ z)
  cases hk:k == NameKind.free with
  |false=>rw[if_neg bq];exact pJ r acc hr
  |true=>
   rw[if_pos rfl,pJ r _ hr,gv]
   have e:k = .free:=by simpa using hk
   have ne:(x == n)=false:=by
    cases q:x == n with
    |false=>rfl
    |true=>exact absurd (by rw[beq_iff_eq.mp q,e];exact bp) h
   rw[ne]
theorem nW {cells:List (Str×Addr)}{x:Str}{c:Addr}(hc:cells.lookup x=some c):∀(names:List (Str×NameKind)) (acc:List (Str×Addr)),(x,NameKind.free)∈names->(fN cells names acc).lookup x=some c
 |[],_,h=>by simp at h
 | (n,k) :: r,acc,h=>by
  unfold fN
  by_cases hr:(x,NameKind.free)∈r
  ·cases hk:k == NameKind.free with
   |false=>rw[if_neg bq];exact nW hc r acc hr
   |true=>rw[if_pos rfl];exact nW hc r _ hr
  ·rcases cm.mp h with e | e
   ·cases e
    rw[if_pos (by decide),pJ r _ hr,gv]
    simp[hc]
   ·exact absurd e hr
theorem lA {cells:List (Str×Addr)}{x:Str}{c:Addr}:∀(names:List (Str×NameKind)) (acc:List (Str×Addr)),(∀y∈names,y.2 = .free->(cells.lookup y.1).isSome=true)->(x,c)∈fN cells names acc ->
  (x,c)∈acc\/((x,NameKind.free)∈names/\cells.lookup x=some c)
 |[],_,_,h => .inl h
 | (n,k) :: r,acc,hh,h=>by
  unfold fN at h
  have hr:∀y∈r,y.2 = .free->(cells.lookup y.1).isSome=true:=λy hy=>hh y (bf _ hy)
  cases hk:k == NameKind.free with
  |false=>
   rw[hk,if_neg bq] at h
   exact(lA r acc hr h).imp id λz=>⟨bf _ z.1,z.2⟩
  |true=>
   rw[hk,if_pos rfl] at h
   have ek:k = .free:=by simpa using hk
   rcases lA r _ hr h with z | z
   ·rcases cm.mp z with z | z
    ·cases z
     obtain⟨d,hd⟩:=jc.mp (hh (x,k) bp ek)
     exact .inr ⟨by rw[ek];exact bp,by rw[hd];rfl⟩
    ·exact .inl z
   ·exact .inr ⟨bf _ z.1,z.2⟩
theorem jQ {cells:List (Str×Addr)}(inj:∀x y c,cells.lookup x=some c->cells.lookup y=some c->x=y):∀(names:List (Str×NameKind)) (acc:List (Str×Addr)),(names.map (·.1)).Nodup ->
  (∀y∈names,y.2 = .free->(cells.lookup y.1).isSome=true)->(∀p∈acc,cells.lookup p.1=some p.2/\p.1∉names.map (·.1))->(acc.Pairwise λx y=>x.2≠y.2)->(fN cells names acc).Pairwise λx y=>x.2≠y.2
 |[],_,_,_,_,h=>h
 | (n,k) :: r,acc,nd,hh,ha,h=>by
  unfold fN
  have hr:∀y∈r,y.2 = .free->(cells.lookup y.1).isSome=true:=λy hy=>hh y (bf _ hy)
  obtain⟨n1,n2⟩:=iz.mp nd
  cases hk:k == NameKind.free with
  |false=>
   rw[if_neg bq]
   exact jQ inj r acc n2 hr (λp hp=>⟨(ha p hp).1,λz=>(ha p hp).2 (bf _ z)⟩) h
  |true=>
   rw[if_pos rfl]
   have ek:k = .free:=by simpa using hk
   obtain⟨d,hd⟩:=jc.mp (hh (n,k) bp ek)
   have hd':cells.lookup n=some d:=hd
   refine jQ inj r _ n2 hr (λp hp=>?_) (uz.mpr ⟨λp hp e=>?_,h⟩)
   ·rcases cm.mp hp with e | hp
    ·subst e;exact⟨by rw[hd'];rfl,n1⟩
    ·exact⟨(ha p hp).1,λz=>(ha p hp).2 (bf _ z)⟩
   ·rw[hd'] at e
    have e':d=p.2:=e
    have:n=p.1:=inj n p.1 d hd' (by rw[e'];exact(ha p hp).1)
    exact(ha p hp).2 (by rw[<- this];exact bp)
theorem fZ {x:Str}{c:Addr}:∀(names:List (Str×NameKind)) (n:Nat) (acc:List (Str×Addr)),(x,c)∈j8 n names acc->(n<=c/\(x,NameKind.cell)∈names)\/(x,c)∈acc
 |[],_,_,h => .inr h
 | (y,k) :: r,n,acc,h=>by
  unfold j8 at h
  cases hk:k == NameKind.cell with
  |false=>
   rw[hk,if_neg bq] at h
   exact(fZ r n acc h).imp (λz=>⟨z.1,bf _ z.2⟩) id
  |true=>
   rw[hk,if_pos rfl] at h
   have ek:k = .cell:=by simpa using hk
   rcases fZ r (n+1) _ h with z | z
   ·exact .inl ⟨by omega,bf _ z.2⟩
   ·rcases cm.mp z with z | z
    ·cases z
     exact .inl ⟨ba _,by rw[ek];exact bp⟩
    ·exact .inr z
theorem fR:∀(names:List (Str×NameKind)) (n:Nat) (acc:List (Str×Addr)),(∀p∈acc,p.2<n)->(acc.Pairwise λx y=>x.2≠y.2)->(j8 n names acc).Pairwise λx y=>x.2≠y.2
 |[],_,_,_,h=>h
 | (y,k) :: r,n,acc,hl,h=>by
  unfold j8
  cases hk:k == NameKind.cell with
  |false=>rw[if_neg bq];exact fR r n acc hl h
  |true=>
   rw[if_pos rfl]
   refine fR r (n+1) _ (λp hp=>?_) (uz.mpr ⟨λp hp e=>?_,h⟩)
   ·rcases cm.mp hp with e | hp
    ·subst e;exact jo _
    ·exact fj (hl p hp)
   ·have e':n=p.2:=e
    exact kx _ (e' ▸ hl p hp)
theorem gW {x:Str}:∀(names:List (Str×NameKind)) (n:Nat) (acc:List (Str×Addr)),(x,NameKind.cell)∉names->(j8 n names acc).lookup x=acc.lookup x
 |[],_,_,_=>rfl
 | (y,k) :: r,n,acc,h=>by
  unfold j8
  have hr:(x,NameKind.cell)∉r:=λz=>h (bf _ z)
  cases hk:k == NameKind.cell with
  |false=>rw[if_neg bq];exact gW r n acc hr
  |true=>
   rw[if_pos rfl,gW r _ _ hr,gv]
   have e:k = .cell:=by simpa using hk
   have ne:(x == y)=false:=by
    cases q:x == y with
    |false=>rfl
    |true=>exact absurd (by rw[beq_iff_eq.mp q,e];exact bp) h
   rw[ne]
theorem fS {x:Str}{c:Addr}:∀(names:List (Str×NameKind)) (h:Heap) (acc:List (Str×Addr)),(x,c)∈j8 h.objs.size names acc->(x,c)∈acc\/(AM h names).IsCell c none
 |[],_,_,hm => .inl hm
 | (y,k) :: r,h,acc,hm=>by
  unfold j8 at hm
  unfold AM
  cases hk:k == NameKind.cell with
  |false=>
   rw[hk,if_neg bq] at hm
   rw[if_neg bq]
   exact fS r h acc hm
  |true=>
   rw[hk,if_pos rfl] at hm
   rw[if_pos rfl]
   have:=fS (x:=x) (c:=c) r (h.push { cls := .type "cell",data := .cell none }) ((y,h.objs.size) :: acc) (by rw[e8];exact hm)
   rcases this with z | z
   ·rcases cm.mp z with z | z
    ·cases z
     exact .inr ⟨_,xp r _ _ _ (ay _ rfl),rfl⟩
    ·exact .inl z
   ·exact .inr z
theorem eA {x:Str}{k:NameKind}:∀{names:List (Str×NameKind)},(names.map (·.1)).Nodup->(x,k)∈names->names.lookup x=some k
 |[],_,h=>by simp at h
 | (y,j) :: r,nd,h=>by
  obtain⟨n1,n2⟩:=iz.mp nd
  rw[gv]
  rcases cm.mp h with e | e
  ·cases e;simp
  ·have ne:(x == y)=false:=by
    cases q:x == y with
    |false=>rfl
    |true=>exact absurd (bt.mpr ⟨(x,k),e,beq_iff_eq.mp q⟩) n1
   rw[ne]
   exact eA n2 e
theorem jW {scope:Scope}{env:Env}{x:Str}{k:NameKind}:(Ao scope env).names.lookup x=some k->(k = .cell\/k = .free)->scope.names.lookup x=some .cell\/scope.names.lookup x=some .free:=by
 unfold Ao
 show(scope.names.map _).lookup x=some k->_
 induction scope.names with
 |nil=>intro h;simp at h
 |cons p r ih=>
  obtain⟨n,j⟩:=p
  intro h hk
  rw[c4] at h
  rw[gv]
  by_cases hc:(j == NameKind.free && env.scope.kind == .function && env.kindOf n == some .cell)=true
  ·simp only[hc,if_true] at h
   rw[gv] at h
   cases q:x == n with
   |true=>
    have:j = .free:=by
     have:=(rn.mp (rn.mp hc).1).1
     simpa using this
    simp[this]
   |false=>rw[q] at h;simpa using ih h hk
  ·simp only[hc,dk,if_false] at h
   rw[gv] at h
   cases q:x == n with
   |true=>
    rw[q] at h
    simp only[Option.some.injEq] at h
    subst h
    rcases hk with e | e <;> simp[e]
   |false=>rw[q] at h;simpa using ih h hk
theorem xE {scope:Scope}{env:Env}{x:Str}(hf:env.scope.kind = .function):scope.names.lookup x=some .free->(Ao scope env).names.lookup x=some .cell\/(Ao scope env).names.lookup x=some .free:=by
 unfold Ao
 show _->(scope.names.map _).lookup x=_\/(scope.names.map _).lookup x=_
 induction scope.names with
 |nil=>intro h;simp at h
 |cons p r ih=>
  obtain⟨n,j⟩:=p
  intro h
  rw[gv] at h
  rw[c4]
  cases q:x == n with
  |true=>
   rw[q] at h
   simp only[Option.some.injEq] at h
   subst h
   by_cases hc:(NameKind.free == NameKind.free && env.scope.kind == .function && env.kindOf n == some .cell)=true
   ·left;simp only[hc,if_true];rw[gv,q]
   ·right;simp only[hc,dk,if_false];rw[gv,q]
  |false=>
   rw[q] at h
   by_cases hc:(j == NameKind.free && env.scope.kind == .function && env.kindOf n == some .cell)=true
   ·simp only[hc,if_true];rw[gv,q];exact ih h
   ·simp only[hc,dk,if_false];rw[gv,q];exact ih h
def fX (X:Cx) (N:List Str) (scope:Scope) (s:Shared) (H:Hp) (fp:List Addr):Cx where
 prog:=X.prog
 w:=X.w
 K:=X.K
 mg:=X.mg
 base:=X.base
 A:=X.A
 N:=N
 s₀:=s
 H₀:=H
 env:=compEnvC scope (j8 (s.heap.objs.size+1) scope.names (fN X.env.cells scope.names [])) s.heap.objs.size X.env
 outer:=X.stack
 stack:=X.stack
 ex:=fp
 fn:=λx=>scope.names.lookup x == some .cell
 calm:=X.calm
 pn:=[]
 xe:=λ_ _=>False
def aJk (σ:St):Option Nat->Option V
 |none=>none
 |some j=>(σ[j]?).join
def jY (N:List Str) (names encl:List (Str×NameKind)) (N':List Str) (ix:List (Option Nat)):Bool:=
 decide ((names.map (·.1)).Nodup) && names.all (λp=>!(p.2 == NameKind.free) || (encl.lookup p.1 == some NameKind.cell || encl.lookup p.1 == some NameKind.free)) && ix.length == N'.length &&
  ((N'.zip ix).all λp=>match p.2 with
   |none=>true
   |some j=>N[j]? == some p.1 && names.lookup p.1 == some NameKind.free)
def cV (ix:List (Option Nat)) (wi:TI) (g:TG) (ts:List TT) (tb:Addr->TS):TE:=λσ H Q=>wi σ H λJ H1=>∀acc,H1 acc=none ->
 gL J g (iG ts (tb acc)) { nx:=λ_ H'=>Q (.ref acc) H',rt:=λ_ _=>False } (ix.map (aJk σ)) (upd H1 acc (.lst []))
section
variable {X:Cx}{elt target iter:Expr}{ifs:List Expr}{rest:List Comprehension}{scope:Scope}{pos:Pos}{N':List Str}{ix:List (Option Nat)}{wi:TI}{g:TG}{ts:List TT}{tb:Addr->TS}
theorem aAY {pins:List (Addr×Obj)}{σ:St}{H:Hp}{s:Shared}{fp:List Addr}{Q:Env->Shared->Prop}{E:Value->Shared->Prop}(I:Inv X pins σ H s)(hok:jY X.N scope.names X.env.scope.names N' ix=true)(hk:scope.kind = .function)
  (hf:∀b∈fp,FpOk X pins H b) (hfo:∀b∈fp,∃o,s.heap.get? b=some o)
  (h:∀s',(∀b o,s.heap.get? b=some o->s'.heap.get? b=some o)->Inv (fX X N' scope s H fp) [] (ix.map (aJk σ)) H s'->Q (newEnv scope s.heap.objs.size X.env.globals (j8 (s.heap.objs.size+1) scope.names (fN X.env.cells scope.names [])) X.env.qual none .none (some X.env) Af) s') :
  wpAny (model X.prog X.w) X.A (y9 scope X.env.globals (fN X.env.cells scope.names []) [] X.env.qual none .none (some X.env)) Q E s:=by
 have hok2:=hok
 simp only[jY,b7,decide_eq_true_eq,bw] at hok
 obtain⟨⟨⟨nd,hfr⟩,hlen⟩,hix⟩:=hok
 have hlen:ix.length=N'.length:=by simpa using hlen
 have isF:∀y∈scope.names,y.2 = .free->X.env.kindOf y.1=some .cell\/X.env.kindOf y.1=some .free:=λy hy e=>by
  have:=hfr y hy
  have:X.env.scope.names.lookup y.1=some .cell\/X.env.scope.names.lookup y.1=some .free:=by simpa[e] using this
  exact this
 have hasC:∀y∈scope.names,y.2 = .free->(X.env.cells.lookup y.1).isSome=true:=λy hy e=>by
  obtain⟨c,hc⟩:=I.ok.has y.1 (isF y hy e)
  rw[hc];rfl
 have oldC:∀x c,(x,c)∈fN X.env.cells scope.names []->(x,NameKind.free)∈scope.names/\X.env.cells.lookup x=some c:=λx c hm=>(lA _ _ hasC hm).resolve_left (by simp)
 have ltC:∀x c,X.env.cells.lookup x=some c->c<s.heap.objs.size:=λx c e=>by obtain⟨v,q⟩:=I.cell x c e;exact q.lt
 have apart:(j8 (s.heap.objs.size+1) scope.names (fN X.env.cells scope.names [])).Pairwise λx y=>x.2≠y.2:=
  fR _ _ _ (λp hp=>fj (ltC p.1 p.2 (oldC p.1 p.2 hp).2)) (jQ I.ok.inj _ _ nd hasC (by simp) List.Pairwise.nil)
 have fromC:∀x c,(j8 (s.heap.objs.size+1) scope.names (fN X.env.cells scope.names [])).lookup x=some c->(s.heap.objs.size+1<=c/\(x,NameKind.cell)∈scope.names)\/((x,NameKind.free)∈scope.names/\X.env.cells.lookup x=some c):=λx c e=>
  (fZ _ _ _ (gh e)).imp id λz=>oldC x c z
 have sz1:(s.heap.push { cls := .type "dict",data := .dict #[] }).objs.size=s.heap.objs.size+1:=e8 ..
 simp only[y9,Option.isSome_some,if_true]
 refine aa (wpAny_alloc ?_)
 refine aa (wpAny_layCells _ (λname kind cells=>by cases hkc:kind == NameKind.cell <;> simp[hkc]) _ _ _ _ ?_)
 rw[show({ s with heap:=s.heap.push { cls := .type "dict",data := .dict #[] } }:Shared).heap.objs.size=s.heap.objs.size+1 from sz1]
 refine aa ?_
 rw[kg]
 refine ao (ao ?_)
 have keep:∀b o,s.heap.get? b=some o->(AM (s.heap.push { cls := .type "dict",data := .dict #[] }) scope.names).get? b=some o:=λb o e=>xp _ _ b o (aj _ e)
 refine h _ keep ?_
 have kk:∀x:Str,(fX X N' scope s H fp).env.kindOf x=(Ao scope X.env).names.lookup x:=λ_=>rfl
 have emptyC:∀x c,(j8 (s.heap.objs.size+1) scope.names (fN X.env.cells scope.names [])).lookup x=some c->∃v,(AM (s.heap.push { cls := .type "dict",data := .dict #[] }) scope.names).IsCell c v:=λx c e=>by
  have:=fS (x:=x) (c:=c) scope.names (s.heap.push { cls := .type "dict",data := .dict #[] }) (fN X.env.cells scope.names []) (by rw[sz1];exact gh e)
  rcases this with z | z
  ·obtain⟨v,q⟩:=I.cell x c (oldC x c z).2
   exact⟨v,q.keeps keep⟩
  ·exact⟨none,z⟩
 refine⟨⟨I.ok.mod,hk,I.ok.glob,I.ok.blt,ba _,λy z c h1 h2=>?_,λy hy=>?_,λy c hy e=>?_,I.ok.hd,I.ok.frames, .inl rfl,λb hb=>⟨?_,λx c e=>?_⟩,I.bs,c9 I.ok.bsz I.sz,λb o e hb=>?_,λb hb hs=>?_,I.stack,I.stkFree⟩,
  rfl,I.bare,Un.kept keep,⟨λ_=>none,(Heap.Ns.new s.heap (.type "dict")).keeps (xp _ _),λi x v e1 e2 e3=>?_⟩,emptyC,I.hok.fresh (ba _),λy c e=>?_,λp hp=>absurd (show p∈([]:List (Addr×Obj)) from hp) (by simp),I.hok.kept keep,by rw[af];exact hlen⟩
 ·exact name_of_addr apart (gh h1) (gh h2)
 ·rw[kk] at hy
  have hy':scope.names.lookup y=some .cell\/scope.names.lookup y=some .free:=by
   rcases hy with q | q
   ·exact jW q (.inl rfl)
   ·exact jW q (.inr rfl)
  refine jc.mp (qi _ _ _ ?_)
  rcases hy' with q | q
  ·exact .inl q
  ·have hm:=gh q
   obtain⟨c,hc⟩:=jc.mp (hasC _ hm rfl)
   exact .inr (by rw[nW hc _ _ hm];rfl)
 ·have hy:scope.names.lookup y=some .cell:=by simpa using(show(scope.names.lookup y == some NameKind.cell)=true from hy)
  rcases fromC y c e with z | z
  ·exact vq z.1
  ·have:=eA nd z.1
   rw[hy] at this;cases this
 ·obtain⟨o,ho⟩:=hfo b hb
  exact c6 (bj ho)
 ·rcases fromC x c e with z | z
  ·obtain⟨o,ho⟩:=hfo b hb
   exact ja (aw (bj ho) (vq z.1))
  ·exact(hf b hb).2.2.2.2.1 x c z.2
 ·rcases(hf b hb).2.2.2.1 with z | z
  ·exact I.ok.noex b o e z
  ·exact absurd (aw (bj (I.ok.bs b o e).1) z) (kx _)
 ·rcases cm.mp (I.stkSub b hs) with z | z
  ·exact(hf b hb).2.1 z
  ·exact(hf b hb).2.2.1 z
 ·rw[bh] at e2
  cases hj:ix[i]? with
  |none=>rw[hj] at e2;cases e2
  |some oj=>
   rw[hj] at e2
   have e2:aJk σ oj=some v:=by simpa using e2
   cases oj with
   |none=>cases e2
   |some j=>
    have hv:σ[j]?=some (some v):=by
     have e2':(σ[j]?).join=some v:=e2
     cases q:σ[j]? with
     |none=>rw[q] at e2';cases e2'
     |some w=>rw[q] at e2';have:w=some v:=e2';rw[this]
    have hz:(x,some j)∈N'.zip ix:=by
     refine au (i:=i) ?_
     rw[List.getElem?_zip_eq_some]
     exact⟨e1,hj⟩
    have:=hix _ hz
    simp only[b7,beq_iff_eq] at this
    obtain⟨n1,n2⟩:=this
    have hm:=gh n2
    obtain⟨m,hn,hl⟩:=I.loc
    have kf:=isF (x, .free) hm rfl
    have vis:Vis X.env.scope x:=by
     rcases kf with q | q
     ·exact .inr (.inl q)
     ·exact .inr (.inr q)
    obtain⟨u,r,l⟩:=hl j x v n1 hv vis
    refine⟨u,r, .inr ?_⟩
    rcases l with⟨k1,_⟩ | ⟨_,c,hc,hcell⟩
    ·rcases kf with q | q <;> (rw[show X.env.kindOf x=some NameKind.local from k1] at q;cases q)
    ·refine⟨?_,c,?_,hcell.keeps keep⟩
     ·rw[kk];exact xE I.ok.kind n2
     ·show(j8 _ _ _).lookup x=some c
      rw[gW,nW hc _ _ hm]
      intro z
      have:=eA nd z
      rw[n2] at this;cases this
 ·rcases fromC y c e with z | z
  ·exact I.hok.fresh (vq z.1)
  ·exact I.freeC y c z.2
theorem rD {pins:List (Addr×Obj)}{σ:St}{H:Hp}{s:Shared}{it:Addr}{fp:List Addr}{tn:Nat->Heap->Prop}{J:It}{RR:Value->Addr->w6->Shared->Prop}{E:Value->Shared->Prop}{D:Addr->mB}
  (hc:X.calm=true) (hok:jY X.N scope.names X.env.scope.names N' ix=true) (hk:scope.kind = .function) (hn:∀g',rest[0]?=some g'->g'.is_async=0)
  (hg:∀s H fp,PG (fX X N' scope s H fp) target g) (hts:∀s H fp,PTs (fX X N' scope s H fp) ifs ts)
  (hb:∀s H fp acc,PB (fX X N' scope s H fp) elt (⟨target,iter,ifs,0⟩ :: rest) scope pos 0 acc (tb acc))
  (I:Inv X pins σ H s) (T:aEW X.prog X.w X.K target J fp it tn) (st:tn 0 s.heap) (hf:∀b∈fp,FpOk X pins H b)
  (h:∀acc,H acc=none->gL J g (iG ts (tb acc)) (D acc) (ix.map (aJk σ)) (upd H acc (.lst [])))
  (hR:∀acc C s' H' σ',H acc=none->s.heap.objs.size<=C->Inv X pins σ H' s'->FpOk X pins H' C->(∃m,s'.heap.Ns C m)->(D acc).nx σ' H'->RR (.ref acc) C (.ok .next) s') :
  wpAny (model X.prog X.w) X.A (A2 []) (λacc s₃=>wpAny (model X.prog X.w) X.A (y9 scope X.env.globals (fN X.env.cells scope.names []) [] X.env.qual none .none (some X.env)) (λcenv s₄=>
   wg (model X.prog X.w) X.A (.compStart (.ListComp elt (⟨target,iter,ifs,0⟩ :: rest) scope pos) 0 (.ref it) acc { cenv with scope:=Ao scope X.env }) (λr s'=>∃f,r = .ok f/\RR acc cenv.locals (.ok .next) s') s₄) E s₃) E s:=by
 refine fc ?_
 have hnone:H s.heap.objs.size=none:=I.hok.fresh (ba _)
 have I3:Inv X pins σ (upd H s.heap.objs.size (.lst [])) { s with heap:=s.heap.push { cls := .type "list",data := .seq ([]:List Value).toArray } }:=
  I.laid (t':=s.toks) (λb u e=>aj _ e) (ba _) ⟨av _,[],0, .nil,ay _ rfl⟩
 have hlt:∀b∈fp,b<s.heap.objs.size:=λb hb=>by obtain⟨o,ho,_⟩:=T.obj 0 _ st b hb;exact bj ho
 have hf3:∀b∈fp,FpOk X pins (upd H s.heap.objs.size (.lst [])) b:=λb hb=>⟨by rw[bC (c6 (hlt b hb))];exact(hf b hb).1,(hf b hb).2⟩
 refine aAY (fp:=fp) I3 hok hk hf3 (λb hb=>?_) λs4 keep I4=>?_
 ·obtain⟨o,ho,_⟩:=T.obj 0 _ st b hb
  exact⟨o,aj _ ho⟩
 have st4:tn 0 s4.heap:=T.keep 0 _ _ st λb hb o e=>keep b o (aj _ e)
 have size3:({ s with heap:=s.heap.push { cls := .type "list",data := .seq ([]:List Value).toArray } }:Shared).heap.objs.size=s.heap.objs.size+1:=e8 ..
 have hf4:∀b∈fp,FpOk (fX X N' scope { s with heap:=s.heap.push { cls := .type "list",data := .seq ([]:List Value).toArray } } (upd H s.heap.objs.size (.lst [])) fp) [] (upd H s.heap.objs.size (.lst [])) b:=λb hb=>
  ⟨(hf3 b hb).1,(I4.ok.exf b hb).1,I4.ok.exfs b hb, .inl hb,(I4.ok.exf b hb).2,λp hp=>absurd (show p∈([]:List (Addr×Obj)) from hp) (by simp)⟩
 refine jm (wN (X:=fX X N' scope { s with heap:=s.heap.push { cls := .type "list",data := .seq ([]:List Value).toArray } } (upd H s.heap.objs.size (.lst [])) fp) rfl hc (d:=0) (gens:=⟨target,iter,ifs,0⟩ :: rest) rfl hn (hg _ _ _) (hts _ _ _) (hb _ _ _ _) T I4 st4 hf4 (h _ hnone)) λr s5 ⟨f,hr,σ5,H5,I5,q5⟩=>⟨f,hr,?_⟩
 have I6:Inv X pins σ H5 s5:=I3.call' (ch:=fp) (I5.os.trans rfl) I5.base I5.hok I5.bare λb hb=>⟨(hf3 b hb).2.2.2.1,(hf3 b hb).2.1,(hf3 b hb).2.2.2.2.1,(hf3 b hb).2.2.2.2.2⟩
 have hC:s.heap.objs.size<=(fX X N' scope { s with heap:=s.heap.push { cls := .type "list",data := .seq ([]:List Value).toArray } } (upd H s.heap.objs.size (.lst [])) fp).env.locals:=by
  show s.heap.objs.size<=_
  exact c9 (wk _) (Nat.le_of_eq size3.symm)
 refine hR _ _ s5 H5 σ5 hnone hC I6 (I3.fpOk (ba _) I5.free) ?_ q5
 obtain⟨m,hm,_⟩:=I5.loc
 exact⟨m,hm⟩
theorem mT (hok:jY X.N scope.names X.env.scope.names N' ix=true):∀x∈scope.names,x.2 = .local->scope.names.lookup x.1=some .local:=by
 simp only[jY,b7,decide_eq_true_eq,bw] at hok
 intro x hx e
 obtain⟨n,k⟩:=x
 have e:k = .local:=e
 subst e
 exact eA hok.1.1.1 hx
theorem pN {pins:List (Addr×Obj)}{σ:St}{H:Hp}{s:Shared}(I:Inv X pins σ H s)(hok:jY X.N scope.names X.env.scope.names N' ix=true):closureFor scope X.env=pure (fN X.env.cells scope.names []):=by
 refine qP λy hy e=>?_
 simp only[jY,b7,decide_eq_true_eq,bw] at hok
 have:=hok.1.1.2 y hy
 have:X.env.scope.names.lookup y.1=some .cell\/X.env.scope.names.lookup y.1=some .free:=by simpa[e] using this
 obtain⟨c,hc⟩:=I.ok.has y.1 this
 rw[hc];rfl
theorem bW (hok:jY X.N scope.names X.env.scope.names N' ix=true)(hk:scope.kind = .function)(hc:X.calm=true)(hi:PI X target iter wi)
  (hg:∀s H fp,PG (fX X N' scope s H fp) target g) (hts:∀s H fp,PTs (fX X N' scope s H fp) ifs ts)
  (hb:∀s H fp acc,PB (fX X N' scope s H fp) elt (⟨target,iter,ifs,0⟩ :: rest) scope pos 0 acc (tb acc))
  (hn:∀g',rest[0]?=some g'->g'.is_async=0:=by intro _ h;first | cases h;rfl | cases h) (hs:∀x,ni iter X.env x=pure x:=by intro _;rfl) :
  PE X (.ListComp elt (⟨target,iter,ifs,0⟩ :: rest) scope pos) (cV ix wi g ts tb):=by
 intro pins s σ H Q I h
 rw[eval_ListComp]
 refine vt (use:=none) rfl hs (pN I hok) hk (mT hok) (thn (hi pins s σ H _ I h) λxv s₁ h₁=>thn h₁ λitv s₂ h₂=>?_)
 obtain⟨it,fp,tn,J,H2,e,I2,T,st2,f2,q2⟩:=h₂
 subst e
 refine thn (rD (RR:=λacc C r s'=>compPost (model X.prog X.w) X.A X.xe none (EP X pins σ Q) acc C r s') hc hok hk hn hg hts hb I2 T st2 f2 q2 λacc C s' H' σ' ha hC I' fC hns q=>?_) λacc s3 h3=>thn h3 λcenv s4 h4=>jm h4 λr s5 ⟨f,hr,h5⟩=>?_
 ·obtain⟨m,hm⟩:=hns
  refine⟨m,hm,λh' hs'=>⟨.ref acc,H',I'.turned (t':=s'.toks) (λb o hb e=>(hs'.2 b hb).trans e) fC.1 fC.2.1 fC.2.2.2.1 fC.2.2.2.2.1 fC.2.2.2.2.2,rfl,q⟩⟩
 ·subst hr
  exact h5
theorem cX {i:Nat}{x:Str}{pos' spos:Pos}(hN:X.N.Nodup)(hix:X.N[i]?=some x)(hx:Loc X.env.scope x)(hok:jY X.N scope.names X.env.scope.names N' ix=true)(hk:scope.kind = .function)(hc:X.calm=true)(hi:PI X target iter wi)
  (hg:∀s H fp,PG (fX X N' scope s H fp) target g) (hts:∀s H fp,PTs (fX X N' scope s H fp) ifs ts)
  (hb:∀s H fp acc,PB (fX X N' scope s H fp) elt (⟨target,iter,ifs,0⟩ :: rest) scope pos 0 acc (tb acc))
  (hsw:swapsWith (.ListComp elt (⟨target,iter,ifs,0⟩ :: rest) scope pos) (some (.Name x pos')) spos.line X.env=pure true:=by rfl)
  (hf:X.fn x=true\/X.env.scope.names.lookup x=some .local:=by first | exact .inl rfl | exact .inr rfl | assumption)
  (hn:∀g',rest[0]?=some g'->g'.is_async=0:=by intro _ h;first | cases h;rfl | cases h) (hs:∀x,ni iter X.env x=pure x:=by intro _;rfl) :
  PS X (.Assign [.Name x pos'] (.ListComp elt (⟨target,iter,ifs,0⟩ :: rest) scope pos) spos) (bO (cV ix wi g ts tb) (aJ i)):=by
 intro pins s σ H D I h
 rw[exec_Assign_Name_used _ _ _ _ hsw]
 refine aa (qa (aa ?_))
 show wpAny _ X.A (do let _ <- comprehension (.ListComp elt (⟨target,iter,ifs,0⟩ :: rest) scope pos) scope X.env _ (A2 []) false (eval iter X.env) (some (Au (.Name x pos') X.env))) _ _ s
 refine aa (jl (vt (use:=some (Au (.Name x pos') X.env)) (Q:=λ_ s'=>SP X pins D .next s') rfl hs (pN I hok) hk (mT hok) (thn (hi pins s σ H _ I h) λxv s₁ h₁=>thn h₁ λitv s₂ h₂=>?_)) (λ_ s' hq=>ao (ao hq)) λ_ _ e=>e)
 obtain⟨it,fp,tn,J,H2,e,I2,T,st2,f2,q2⟩:=h₂
 subst e
 refine thn (rD (RR:=λacc C r s'=>compPost (model X.prog X.w) X.A X.xe (some (Au (.Name x pos') X.env)) (λ_ s'=>SP X pins D .next s') acc C r s') hc hok hk hn hg hts hb I2 T st2 f2 q2 λacc C s' H' σ' ha hC I' fC hns q=>?_) λacc s3 h3=>thn h3 λcenv s4 h4=>jm h4 λr s5 ⟨f,hr,h5⟩=>?_
 ·obtain⟨m,hm⟩:=hns
  show wpAny _ X.A (Au (.Name x pos') X.env (.ref acc)) _ _ _
  refine wpAny_assign_Name (wB I' hN hix hx (v := .ref acc) rfl (λs6 I6 ⟨a,hsb,ha6⟩=>?_) hf)
  have hCa:C≠a:=by
   rcases ha6 with z | z
   ·rw[z];exact fC.2.1
   ·exact(fC.2.2.2.2.1 x a z).symm
  refine⟨m,hm.sameBut hsb hCa,λh' hs'=>⟨_,H',I6.turned (t':=s6.toks) (λb o hb e=>(hs'.2 b hb).trans e) fC.1 fC.2.1 fC.2.2.2.1 fC.2.2.2.2.1 fC.2.2.2.2.2,q⟩⟩
 ·subst hr
  exact h5
end
theorem Same.tup {K:ae}{H H':Hp}{a:Addr}{xs:List V}(e:Same H H')(h:SqT K H a xs):SqT K H' a xs:=by
 rcases h with(h | ⟨o,h⟩) | h
 ·exact .inl (.inl (e _ _ h))
 ·exact .inl (.inr ⟨o,e _ _ h⟩)
 ·exact .inr h
inductive Dt where
 |non | bl (b:Bool) | int (i:Int) | str (x:Str) | tup (ds:List Dt) | lst (ds:List Dt)
mutual
def Sh (K:ae) (H:Hp):Dt->V->Prop
 | .non,v=>v = .non
 | .bl b,v=>v = .bl b
 | .int i,v=>v = .int i
 | .str x,v=>v = .str x
 | .tup ds,v=>∃a xs,v = .ref a/\SqT K H a xs/\ShL K H ds xs
 | .lst ds,v=>∃a xs,v = .ref a/\SqL K H a xs/\ShL K H ds xs
def ShL (K:ae) (H:Hp):List Dt->List V->Prop
 |[],xs=>xs=[]
 |d :: ds,xs=>∃x r,xs=x :: r/\Sh K H d x/\ShL K H ds r
end
mutual
def eqD:Dt->Dt->Bool
 | .non, .non=>true
 | .bl a, .bl b=>a == b
 | .int a, .int b=>a == b
 | .str a, .str b=>a == b
 | .bl a, .int b=>(if a then 1 else 0) == b
 | .int a, .bl b=>a == (if b then 1 else 0)
 | .tup ds, .tup es=>eqL ds es
 | .lst ds, .lst es=>eqL ds es
 |_,_=>false
def eqL:List Dt->List Dt->Bool
 |[],[]=>true
 |d :: ds,e :: es=>eqD d e && eqL ds es
 |_,_=>false
end
mutual
def dep:Dt->Nat
 | .tup ds=>lV ds+1
 | .lst ds=>lV ds+1
 |_=>0
def lV:List Dt->Nat
 |[]=>0
 |d :: ds=>max (dep d) (lV ds)
end
section
variable {K:ae}{H H':Hp}
mutual
theorem Sh.same (e:Same H H'):∀{d:Dt}{v:V},Sh K H d v->Sh K H' d v
 | .non,_,h=>h
 | .bl _,_,h=>h
 | .int _,_,h=>h
 | .str _,_,h=>h
 | .tup ds,_,⟨a,xs,h1,h2,h3⟩=>⟨a,xs,h1,e.tup h2,ShL.same e h3⟩
 | .lst ds,_,⟨a,xs,h1,h2,h3⟩=>⟨a,xs,h1,e.seq h2,ShL.same e h3⟩
theorem ShL.same (e:Same H H'):∀{ds:List Dt}{xs:List V},ShL K H ds xs->ShL K H' ds xs
 |[],_,h=>h
 |d :: ds,_,⟨x,r,h1,h2,h3⟩=>⟨x,r,h1,Sh.same e h2,ShL.same e h3⟩
end
theorem ShL.length:∀{ds:List Dt}{xs:List V},ShL K H ds xs->ds.length=xs.length
 |[],_,h=>by rw[show _=[] from h];rfl
 |d :: ds,_,⟨x,r,h1,h2,h3⟩=>by rw[h1,cy,cy,ShL.length h3]
theorem ShL.get:∀{ds:List Dt}{xs:List V}{j:Nat}{d:Dt},ShL K H ds xs->ds[j]?=some d->∃x,xs[j]?=some x/\Sh K H d x
 |[],_,_,_,_,h=>by simp at h
 |d :: ds,_,0,e,⟨x,r,h1,h2,h3⟩,h=>by
  have:d=e:=by simpa using h
  subst this
  exact⟨x,by rw[h1];rfl,h2⟩
 |d :: ds,_,j+1,e,⟨x,r,h1,h2,h3⟩,h=>by
  obtain⟨y,h4,h5⟩:=ShL.get (j:=j) h3 (by simpa using h)
  exact⟨y,by rw[h1];simpa using h4,h5⟩
theorem ShL.ints:∀(ns:List Int),ShL K H (ns.map Dt.int) (ns.map V.int)
 |[]=>rfl
 |n :: ns=>⟨.int n,ns.map V.int,rfl,rfl,ShL.ints ns⟩
theorem ShL.of_ints:∀{ns:List Int}{xs:List V},ShL K H (ns.map Dt.int) xs->xs=ns.map V.int
 |[],_,h=>h
 |n :: ns,_,⟨x,r,h1,h2,h3⟩=>by rw[h1,ShL.of_ints h3,show x=V.int n from h2];rfl
end
mutual
theorem eQ:∀d:Dt,eqD d d=true
 | .non=>by unfold eqD;rfl
 | .bl b=>by unfold eqD;simp
 | .int b=>by unfold eqD;simp
 | .str b=>by unfold eqD;simp
 | .tup ds=>by unfold eqD;exact fG ds
 | .lst ds=>by unfold eqD;exact fG ds
theorem fG:∀ds:List Dt,eqL ds ds=true
 |[]=>by unfold eqL;rfl
 |d :: ds=>by unfold eqL;rw[eQ d,fG ds];rfl
end
theorem lO:∀{ds es:List Dt},eqL ds es=true->ds.length=es.length
 |[],[],_=>rfl
 |[],_ :: _,h=>by unfold eqL at h;cases h
 |_ :: _,[],h=>by unfold eqL at h;cases h
 |d :: ds,e :: es,h=>by
  unfold eqL at h
  rw[cy,cy,lO (rn.mp h).2]
theorem jE (n:Nat)(f:Nat->Bool):(aq (n+1)).all f=(f 0 && (aq n).all λj=>f (j+1)):=by
 rw[mw,sf,u3]
 rfl
theorem lG:∀(ds es:List Dt),((aq (min ds.length es.length)).all (λj=>eqD (ds.getD j .non) (es.getD j .non)) && ds.length == es.length)=eqL ds es
 |[],[]=>by unfold eqL;rfl
 |[],e :: es=>by unfold eqL;simp
 |d :: ds,[]=>by unfold eqL;simp
 |d :: ds,e :: es=>by
  have ih:=lG ds es
  unfold eqL
  rw[<- ih,cy,cy,Nat.succ_min_succ,jE,Bool.and_assoc]
  congr 1
  congr 1
  simp
theorem uA {ds:List Dt}{j:Nat}{d:Dt}(h:ds[j]?=some d):dep d<=lV ds:=by
 induction ds generalizing j with
 |nil=>simp at h
 |cons e es ih=>
  unfold lV
  cases j with
  |zero=>
   have:e=d:=by simpa using h
   subst this
   exact Nat.le_max_left _ _
  |succ j=>exact c9 (ih (by simpa using h)) (Nat.le_max_right _ _)
section
variable {X:Cx}{pins:List (Addr×Obj)}{σ:St}{H:Hp}{s:Shared}
theorem Inv.tl_ne (I:Inv X pins σ H s){a:Addr}{xs ys:List V}(h:SqT X.K H a xs)(h':SqL X.K H a ys):False:=by
 obtain⟨its,r,⟨o,e,c,n,d⟩,_⟩:=I.tuple h
 obtain⟨its',r',⟨o',n',e',c',_,d'⟩,_⟩:=I.list h'
 rw[e] at e';cases e'
 rw[c] at c';simp at c'
mutual
theorem Inv.sh_inj (I:Inv X pins σ H s):∀{d e:Dt}{v:V},Sh X.K H d v->Sh X.K H e v->d=e
 | .non,e,v,h,h'=>by
  have h:v = .non:=h
  subst h
  cases e <;> first | rfl | (exact absurd (show V.non=_ from h') (λz=>nomatch z)) | (obtain⟨_,_,z,_⟩:=h';cases z)
 | .bl b,e,v,h,h'=>by
  have h:v = .bl b:=h
  subst h
  cases e <;> first | (cases (show V.bl b=V.bl _ from h');rfl) | (exact absurd (show V.bl b=_ from h') (λz=>nomatch z)) | (obtain⟨_,_,z,_⟩:=h';cases z)
 | .int b,e,v,h,h'=>by
  have h:v = .int b:=h
  subst h
  cases e <;> first | (cases (show V.int b=V.int _ from h');rfl) | (exact absurd (show V.int b=_ from h') (λz=>nomatch z)) | (obtain⟨_,_,z,_⟩:=h';cases z)
 | .str b,e,v,h,h'=>by
  have h:v = .str b:=h
  subst h
  cases e <;> first | (cases (show V.str b=V.str _ from h');rfl) | (exact absurd (show V.str b=_ from h') (λz=>nomatch z)) | (obtain⟨_,_,z,_⟩:=h';cases z)
 | .tup ds,e,v,⟨a,xs,h1,h2,h3⟩,h'=>by
  subst h1
  cases e with
  |tup es=>
   obtain⟨a',xs',z,h2',h3'⟩:=h'
   cases z
   rw[I.tuple_inj h2' h2] at h3'
   rw[Inv.shL_inj I h3 h3']
  |lst es=>
   obtain⟨a',xs',z,h2',h3'⟩:=h'
   cases z
   exact(I.tl_ne h2 h2').elim
  |_=>exact absurd (show V.ref a=_ from h') (λz=>nomatch z)
 | .lst ds,e,v,⟨a,xs,h1,h2,h3⟩,h'=>by
  subst h1
  cases e with
  |lst es=>
   obtain⟨a',xs',z,h2',h3'⟩:=h'
   cases z
   rw[I.list_inj h2' h2] at h3'
   rw[Inv.shL_inj I h3 h3']
  |tup es=>
   obtain⟨a',xs',z,h2',h3'⟩:=h'
   cases z
   exact(I.tl_ne h2' h2).elim
  |_=>exact absurd (show V.ref a=_ from h') (λz=>nomatch z)
theorem Inv.shL_inj (I:Inv X pins σ H s):∀{ds es:List Dt}{xs:List V},ShL X.K H ds xs->ShL X.K H es xs->ds=es
 |[],[],_,_,_=>rfl
 |[],e :: es,_,h,⟨x,r,h1,_⟩=>by rw[show _=[] from h] at h1;cases h1
 |d :: ds,[],_,⟨x,r,h1,_⟩,h=>by rw[show _=[] from h] at h1;cases h1
 |d :: ds,e :: es,_,⟨x,r,h1,h2,h3⟩,⟨x',r',h1',h2',h3'⟩=>by
  rw[h1] at h1'
  cases h1'
  rw[Inv.sh_inj I h2 h2',Inv.shL_inj I h3 h3']
end
end
section
variable {X:Cx}{pins:List (Addr×Obj)}{σ:St}{H:Hp}{s:Shared}
open PySem.SeqAt
theorem nT {ds es:List Dt}{xs ys:List V}{us vs:List Value}(hs:ShL X.K H ds xs)(hr:Vals xs us)(hs':ShL X.K H es ys)(hr':Vals ys vs){A:Around}
  (h:∀(d e:Dt) (x y:V) (u v:Value),(∃j:Nat,ds[j]?=some d)->RelV x u->RelV y v->Sh X.K H d x->Sh X.K H e y->EqAt A s u v (eqD d e)) :
  ∀j (h1:j<us.toArray.size) (h2:j<vs.toArray.size),EqAt A s us.toArray[j] vs.toArray[j] (eqD (ds.getD j .non) (es.getD j .non)):=by
 intro j h1 h2
 have l1:=hs.length
 have l2:=hr.length
 have l3:=hs'.length
 have l4:=hr'.length
 have g1:j<us.length:=by simpa using h1
 have g2:j<vs.length:=by simpa using h2
 have e1:ds[j]?=some (ds.getD j .non):=by rw[ak,ah (by omega)];rfl
 have e2:es[j]?=some (es.getD j .non):=by rw[ak,ah (by omega)];rfl
 obtain⟨x,hx,sx⟩:=hs.get e1
 obtain⟨y,hy,sy⟩:=hs'.get e2
 obtain⟨u,hu,ru⟩:=hr.get hx
 obtain⟨v,hv,rv⟩:=hr'.get hy
 have q1:us.toArray[j]=u:=by
  rw[ah g1] at hu
  simpa using hu
 have q2:vs.toArray[j]=v:=by
  rw[ah g2] at hv
  simpa using hv
 rw[q1,q2]
 exact h _ _ x y u v ⟨j,e1⟩ ru rv sx sy
theorem Inv.eq_sh (I:Inv X pins σ H s):∀(n:Nat) (A:Around) (d e:Dt) (x y:V) (u v:Value),dep d<=n->A.units+n<cLine->RelV x u->RelV y v->Sh X.K H d x->Sh X.K H e y->RcAt A s u v (eqD d e)/\EqAt A s u v (eqD d e):=by
 intro n
 induction n with
 |zero=>
  intro A d e x y u v hd hu rx ry hx hy
  have hu0:A.units<cLine:=by omega
  cases d with
  |tup ds=>unfold dep at hd;omega
  |lst ds=>unfold dep at hd;omega
  |non=>
   obtain rfl:x = .non:=hx
   obtain rfl:u=Value.none:=rx
   cases e with
   |non=>obtain rfl:y = .non:=hy;obtain rfl:v=Value.none:=ry;unfold eqD;exact⟨RcAt.none_none,EqAt.same _⟩
   |bl b=>obtain rfl:y = .bl b:=hy;obtain rfl:v=Value.bool b:=ry;unfold eqD;exact⟨RcAt.none_bool b,EqAt.none_bool b⟩
   |int b=>obtain rfl:y = .int b:=hy;obtain⟨t,rfl⟩:=ry;unfold eqD;exact⟨RcAt.none_int b t,EqAt.none_int b t⟩
   |str b=>obtain rfl:y = .str b:=hy;obtain⟨t,rfl⟩:=ry;unfold eqD;exact⟨RcAt.none_str b t,EqAt.none_str b t⟩
   |tup es=>obtain⟨b,ys,rfl,hq,_⟩:=hy;obtain rfl:v=Value.ref b:=ry;obtain⟨its,_,p,_⟩:=I.tuple hq;unfold eqD;exact⟨RcAt.none_tuple (show s.heap.IsTuple b its.toArray from p) hu0,EqAt.none_tuple (show s.heap.IsTuple b its.toArray from p) hu0⟩
   |lst es=>obtain⟨b,ys,rfl,hq,_⟩:=hy;obtain rfl:v=Value.ref b:=ry;obtain⟨its,_,p,_⟩:=I.list hq;unfold eqD;exact⟨RcAt.none_list p.isList hu0,EqAt.none_list p.isList hu0⟩
  |bl a=>
   obtain rfl:x = .bl a:=hx
   obtain rfl:u=Value.bool a:=rx
   cases e with
   |non=>obtain rfl:y = .non:=hy;obtain rfl:v=Value.none:=ry;unfold eqD;exact⟨RcAt.bool_none a,EqAt.bool_none a⟩
   |bl b=>obtain rfl:y = .bl b:=hy;obtain rfl:v=Value.bool b:=ry;unfold eqD;exact⟨RcAt.bool_bool a b,EqAt.bool_bool a b⟩
   |int b=>obtain rfl:y = .int b:=hy;obtain⟨t,rfl⟩:=ry;unfold eqD;exact⟨RcAt.bool_int a b t,EqAt.bool_int a b t⟩
   |str b=>obtain rfl:y = .str b:=hy;obtain⟨t,rfl⟩:=ry;unfold eqD;exact⟨RcAt.bool_str a b t,EqAt.bool_str a b t⟩
   |tup es=>obtain⟨b,ys,rfl,hq,_⟩:=hy;obtain rfl:v=Value.ref b:=ry;obtain⟨its,_,p,_⟩:=I.tuple hq;unfold eqD;exact⟨RcAt.bool_tuple a (show s.heap.IsTuple b its.toArray from p) hu0,EqAt.bool_tuple a (show s.heap.IsTuple b its.toArray from p) hu0⟩
   |lst es=>obtain⟨b,ys,rfl,hq,_⟩:=hy;obtain rfl:v=Value.ref b:=ry;obtain⟨its,_,p,_⟩:=I.list hq;unfold eqD;exact⟨RcAt.bool_list a p.isList hu0,EqAt.bool_list a p.isList hu0⟩
  |int a=>
   obtain rfl:x = .int a:=hx
   obtain⟨t0,rfl⟩:=rx
   cases e with
   |non=>obtain rfl:y = .non:=hy;obtain rfl:v=Value.none:=ry;unfold eqD;exact⟨RcAt.int_none a t0,EqAt.int_none a t0⟩
   |bl b=>obtain rfl:y = .bl b:=hy;obtain rfl:v=Value.bool b:=ry;unfold eqD;exact⟨RcAt.int_bool a t0 b,EqAt.int_bool a t0 b⟩
   |int b=>obtain rfl:y = .int b:=hy;obtain⟨t,rfl⟩:=ry;unfold eqD;exact⟨RcAt.int_int a t0 b t,EqAt.int_int a t0 b t⟩
   |str b=>obtain rfl:y = .str b:=hy;obtain⟨t,rfl⟩:=ry;unfold eqD;exact⟨RcAt.int_str a t0 b t,EqAt.int_str a t0 b t⟩
   |tup es=>obtain⟨b,ys,rfl,hq,_⟩:=hy;obtain rfl:v=Value.ref b:=ry;obtain⟨its,_,p,_⟩:=I.tuple hq;unfold eqD;exact⟨RcAt.int_tuple a t0 (show s.heap.IsTuple b its.toArray from p) hu0,EqAt.int_tuple a t0 (show s.heap.IsTuple b its.toArray from p) hu0⟩
   |lst es=>obtain⟨b,ys,rfl,hq,_⟩:=hy;obtain rfl:v=Value.ref b:=ry;obtain⟨its,_,p,_⟩:=I.list hq;unfold eqD;exact⟨RcAt.int_list a t0 p.isList hu0,EqAt.int_list a t0 p.isList hu0⟩
  |str a=>
   obtain rfl:x = .str a:=hx
   obtain⟨t0,rfl⟩:=rx
   cases e with
   |non=>obtain rfl:y = .non:=hy;obtain rfl:v=Value.none:=ry;unfold eqD;exact⟨RcAt.str_none a t0,EqAt.str_none a t0⟩
   |bl b=>obtain rfl:y = .bl b:=hy;obtain rfl:v=Value.bool b:=ry;unfold eqD;exact⟨RcAt.str_bool a t0 b,EqAt.str_bool a t0 b⟩
   |int b=>obtain rfl:y = .int b:=hy;obtain⟨t,rfl⟩:=ry;unfold eqD;exact⟨RcAt.str_int a t0 b t,EqAt.str_int a t0 b t⟩
   |str b=>obtain rfl:y = .str b:=hy;obtain⟨t,rfl⟩:=ry;unfold eqD;exact⟨RcAt.str_str a t0 b t,EqAt.str_str a t0 b t⟩
   |tup es=>obtain⟨b,ys,rfl,hq,_⟩:=hy;obtain rfl:v=Value.ref b:=ry;obtain⟨its,_,p,_⟩:=I.tuple hq;unfold eqD;exact⟨RcAt.str_tuple a t0 (show s.heap.IsTuple b its.toArray from p) hu0,EqAt.str_tuple a t0 (show s.heap.IsTuple b its.toArray from p) hu0⟩
   |lst es=>obtain⟨b,ys,rfl,hq,_⟩:=hy;obtain rfl:v=Value.ref b:=ry;obtain⟨its,_,p,_⟩:=I.list hq;unfold eqD;exact⟨RcAt.str_list a t0 p.isList hu0,EqAt.str_list a t0 p.isList hu0⟩
 |succ n ih=>
  intro A d e x y u v hd hu rx ry hx hy
  have hu0:A.units<cLine:=by omega
  by_cases hd0:dep d<=n
  ·exact ih A d e x y u v hd0 (by omega) rx ry hx hy
  cases d with
  |non=>exact absurd (av _) hd0
  |bl a=>exact absurd (av _) hd0
  |int a=>exact absurd (av _) hd0
  |str a=>exact absurd (av _) hd0
  |tup ds=>
   have hdd:lV ds<=n:=by unfold dep at hd;omega
   have hx0:=hx
   obtain⟨a,xs,rfl,hq,hl⟩:=hx
   obtain rfl:u=Value.ref a:=rx
   obtain⟨its,rv,p,_⟩:=I.tuple hq
   have p:s.heap.IsTuple a its.toArray:=p
   cases e with
   |non=>obtain rfl:y = .non:=hy;obtain rfl:v=Value.none:=ry;unfold eqD;exact⟨RcAt.tuple_none p hu0,EqAt.tuple_none p hu0⟩
   |bl b=>obtain rfl:y = .bl b:=hy;obtain rfl:v=Value.bool b:=ry;unfold eqD;exact⟨RcAt.tuple_bool b p hu0,EqAt.tuple_bool b p hu0⟩
   |int b=>obtain rfl:y = .int b:=hy;obtain⟨t,rfl⟩:=ry;unfold eqD;exact⟨RcAt.tuple_int b t p hu0,EqAt.tuple_int b t p hu0⟩
   |str b=>obtain rfl:y = .str b:=hy;obtain⟨t,rfl⟩:=ry;unfold eqD;exact⟨RcAt.tuple_str b t p hu0,EqAt.tuple_str b t p hu0⟩
   |lst es=>obtain⟨b,ys,rfl,hq',_⟩:=hy;obtain rfl:v=Value.ref b:=ry;obtain⟨its',_,p',_⟩:=I.list hq';unfold eqD;exact⟨RcAt.tuple_list p p'.isList hu0,EqAt.tuple_list p p'.isList hu0⟩
   |tup es=>
    have hy0:=hy
    obtain⟨b,ys,rfl,hq',hl'⟩:=hy
    obtain rfl:v=Value.ref b:=ry
    obtain⟨its',rv',p',_⟩:=I.tuple hq'
    have p':s.heap.IsTuple b its'.toArray:=p'
    have he:=nT (A:=A.in1) (s:=s) hl rv hl' rv' (λd e x y u v ⟨j,hj⟩ r1 r2 s1 s2=>(ih A.in1 d e x y u v (c9 (uA hj) hdd) (by show A.units+1+n<cLine;omega) r1 r2 s1 s2).2)
    have rc:=RcAt.tuples p p' hu0 he
    have l1:=hl.length
    have l2:=rv.length
    have l3:=hl'.length
    have l4:=rv'.length
    rw[ar,ar,<- l2,<- l4,<- l1,<- l3,lG] at rc
    unfold eqD
    refine⟨rc,?_⟩
    by_cases hab:a=b
    ·subst hab
     have:=I.sh_inj hx0 hy0
     cases this
     rw[fG]
     exact EqAt.same _
    ·exact EqAt.of_refs hab rc
  |lst ds=>
   have hdd:lV ds<=n:=by unfold dep at hd;omega
   have hx0:=hx
   obtain⟨a,xs,rfl,hq,hl⟩:=hx
   obtain rfl:u=Value.ref a:=rx
   obtain⟨its,rv,p,_⟩:=I.list hq
   have p:=p.isList
   cases e with
   |non=>obtain rfl:y = .non:=hy;obtain rfl:v=Value.none:=ry;unfold eqD;exact⟨RcAt.list_none p hu0,EqAt.list_none p hu0⟩
   |bl b=>obtain rfl:y = .bl b:=hy;obtain rfl:v=Value.bool b:=ry;unfold eqD;exact⟨RcAt.list_bool b p hu0,EqAt.list_bool b p hu0⟩
   |int b=>obtain rfl:y = .int b:=hy;obtain⟨t,rfl⟩:=ry;unfold eqD;exact⟨RcAt.list_int b t p hu0,EqAt.list_int b t p hu0⟩
   |str b=>obtain rfl:y = .str b:=hy;obtain⟨t,rfl⟩:=ry;unfold eqD;exact⟨RcAt.list_str b t p hu0,EqAt.list_str b t p hu0⟩
   |tup es=>obtain⟨b,ys,rfl,hq',_⟩:=hy;obtain rfl:v=Value.ref b:=ry;obtain⟨its',_,p',_⟩:=I.tuple hq';unfold eqD;exact⟨RcAt.list_tuple p (show s.heap.IsTuple b its'.toArray from p') hu0,EqAt.list_tuple p (show s.heap.IsTuple b its'.toArray from p') hu0⟩
   |lst es=>
    have hy0:=hy
    obtain⟨b,ys,rfl,hq',hl'⟩:=hy
    obtain rfl:v=Value.ref b:=ry
    obtain⟨its',rv',p',_⟩:=I.list hq'
    have p':=p'.isList
    have l1:=hl.length
    have l2:=rv.length
    have l3:=hl'.length
    have l4:=rv'.length
    have rc:RcAt A s (.ref a) (.ref b) (eqL ds es):=by
     by_cases hz:ds.length=es.length
     ·have he:=nT (A:=A.in1) (s:=s) hl rv hl' rv' (λd e x y u v ⟨j,hj⟩ r1 r2 s1 s2=>(ih A.in1 d e x y u v (c9 (uA hj) hdd) (by show A.units+1+n<cLine;omega) r1 r2 s1 s2).2)
      have rc:=RcAt.lists p p' (by rw[ar,ar];omega) hu0 he
      rw[ar,<- l2,<- l1] at rc
      have q:=lG ds es
      rw[<- hz,Nat.min_self,beq_self_eq_true,zx] at q
      rw[<- q]
      exact rc
     ·have q:eqL ds es=false:=by
       cases q:eqL ds es with
       |false=>rfl
       |true=>exact absurd (lO q) hz
      rw[q]
      exact RcAt.lists_lengths p p' (by rw[ar,ar];simp;omega) hu0
    unfold eqD
    refine⟨rc,?_⟩
    by_cases hab:a=b
    ·subst hab
     have:=I.sh_inj hx0 hy0
     cases this
     rw[fG]
     exact EqAt.same _
    ·exact EqAt.of_refs hab rc
def gE (K:ae):R2:=λx y H Q=>∃d e,dep d<=100/\Sh K H d x/\Sh K H e y/\Q (.bl (eqD d e)) H
theorem aIA (hu:X.A.units+100<cLine):OpR X (gj .Eq) (gE X.K):=by
 intro pins s σ H x y v u Q I rx ry ⟨d,e,hd,hx,hy,q⟩
 exact(I.eq_sh 100 X.A d e x y v u hd hu rx ry hx hy).1 X.prog X.w X.xe _ ⟨.bl _,H,I,rfl,q⟩
end
section
variable {X:Cx}{pins:List (Addr×Obj)}{σ:St}{H:Hp}{s:Shared}
open PySem.SeqAt
theorem Inv.ne_sh (I:Inv X pins σ H s){A:Around}(d e:Dt)(x y:V)(u v:Value)(hd:dep d<=100)(hu:A.units+101<cLine)(rx:RelV x u)(ry:RelV y v)(hx:Sh X.K H d x)(hy:Sh X.K H e y):RcNeAt A s u v (!eqD d e):=by
 have hu0:A.units<cLine:=by omega
 cases d with
 |non=>
  obtain rfl:x = .non:=hx
  obtain rfl:u=Value.none:=rx
  cases e with
  |non=>obtain rfl:y = .non:=hy;obtain rfl:v=Value.none:=ry;unfold eqD;exact RcNeAt.none_none
  |bl b=>obtain rfl:y = .bl b:=hy;obtain rfl:v=Value.bool b:=ry;unfold eqD;exact RcNeAt.none_bool b
  |int b=>obtain rfl:y = .int b:=hy;obtain⟨t,rfl⟩:=ry;unfold eqD;exact RcNeAt.none_int b t
  |str b=>obtain rfl:y = .str b:=hy;obtain⟨t,rfl⟩:=ry;unfold eqD;exact RcNeAt.none_str b t
  |tup es=>obtain⟨b,ys,rfl,hq,_⟩:=hy;obtain rfl:v=Value.ref b:=ry;obtain⟨its,_,p,_⟩:=I.tuple hq;unfold eqD;exact RcNeAt.none_tuple (show s.heap.IsTuple b its.toArray from p) hu0
  |lst es=>obtain⟨b,ys,rfl,hq,_⟩:=hy;obtain rfl:v=Value.ref b:=ry;obtain⟨its,_,p,_⟩:=I.list hq;unfold eqD;exact RcNeAt.none_list p.isList hu0
 |bl a=>
  obtain rfl:x = .bl a:=hx
  obtain rfl:u=Value.bool a:=rx
  cases e with
  |non=>obtain rfl:y = .non:=hy;obtain rfl:v=Value.none:=ry;unfold eqD;exact RcNeAt.bool_none a
  |bl b=>obtain rfl:y = .bl b:=hy;obtain rfl:v=Value.bool b:=ry;unfold eqD;exact RcNeAt.bool_bool a b
  |int b=>obtain rfl:y = .int b:=hy;obtain⟨t,rfl⟩:=ry;unfold eqD;exact RcNeAt.bool_int a b t
  |str b=>obtain rfl:y = .str b:=hy;obtain⟨t,rfl⟩:=ry;unfold eqD;exact RcNeAt.bool_str a b t
  |tup es=>obtain⟨b,ys,rfl,hq,_⟩:=hy;obtain rfl:v=Value.ref b:=ry;obtain⟨its,_,p,_⟩:=I.tuple hq;unfold eqD;exact RcNeAt.bool_tuple a (show s.heap.IsTuple b its.toArray from p) hu0
  |lst es=>obtain⟨b,ys,rfl,hq,_⟩:=hy;obtain rfl:v=Value.ref b:=ry;obtain⟨its,_,p,_⟩:=I.list hq;unfold eqD;exact RcNeAt.bool_list a p.isList hu0
 |int a=>
  obtain rfl:x = .int a:=hx
  obtain⟨t0,rfl⟩:=rx
  cases e with
  |non=>obtain rfl:y = .non:=hy;obtain rfl:v=Value.none:=ry;unfold eqD;exact RcNeAt.int_none a t0
  |bl b=>obtain rfl:y = .bl b:=hy;obtain rfl:v=Value.bool b:=ry;unfold eqD;exact RcNeAt.int_bool a t0 b
  |int b=>obtain rfl:y = .int b:=hy;obtain⟨t,rfl⟩:=ry;unfold eqD;exact RcNeAt.int_int a t0 b t
  |str b=>obtain rfl:y = .str b:=hy;obtain⟨t,rfl⟩:=ry;unfold eqD;exact RcNeAt.int_str a t0 b t
  |tup es=>obtain⟨b,ys,rfl,hq,_⟩:=hy;obtain rfl:v=Value.ref b:=ry;obtain⟨its,_,p,_⟩:=I.tuple hq;unfold eqD;exact RcNeAt.int_tuple a t0 (show s.heap.IsTuple b its.toArray from p) hu0
  |lst es=>obtain⟨b,ys,rfl,hq,_⟩:=hy;obtain rfl:v=Value.ref b:=ry;obtain⟨its,_,p,_⟩:=I.list hq;unfold eqD;exact RcNeAt.int_list a t0 p.isList hu0
 |str a=>
  obtain rfl:x = .str a:=hx
  obtain⟨t0,rfl⟩:=rx
  cases e with
  |non=>obtain rfl:y = .non:=hy;obtain rfl:v=Value.none:=ry;unfold eqD;exact RcNeAt.str_none a t0
  |bl b=>obtain rfl:y = .bl b:=hy;obtain rfl:v=Value.bool b:=ry;unfold eqD;exact RcNeAt.str_bool a t0 b
  |int b=>obtain rfl:y = .int b:=hy;obtain⟨t,rfl⟩:=ry;unfold eqD;exact RcNeAt.str_int a t0 b t
  |str b=>obtain rfl:y = .str b:=hy;obtain⟨t,rfl⟩:=ry;unfold eqD;exact RcNeAt.str_str a t0 b t
  |tup es=>obtain⟨b,ys,rfl,hq,_⟩:=hy;obtain rfl:v=Value.ref b:=ry;obtain⟨its,_,p,_⟩:=I.tuple hq;unfold eqD;exact RcNeAt.str_tuple a t0 (show s.heap.IsTuple b its.toArray from p) hu0
  |lst es=>obtain⟨b,ys,rfl,hq,_⟩:=hy;obtain rfl:v=Value.ref b:=ry;obtain⟨its,_,p,_⟩:=I.list hq;unfold eqD;exact RcNeAt.str_list a t0 p.isList hu0
 |tup ds=>
  have hdd:lV ds<=100:=by unfold dep at hd;omega
  obtain⟨a,xs,rfl,hq,hl⟩:=hx
  obtain rfl:u=Value.ref a:=rx
  obtain⟨its,rv,p,_⟩:=I.tuple hq
  have p:s.heap.IsTuple a its.toArray:=p
  cases e with
  |non=>obtain rfl:y = .non:=hy;obtain rfl:v=Value.none:=ry;unfold eqD;exact RcNeAt.tuple_none p hu0
  |bl b=>obtain rfl:y = .bl b:=hy;obtain rfl:v=Value.bool b:=ry;unfold eqD;exact RcNeAt.tuple_bool b p hu0
  |int b=>obtain rfl:y = .int b:=hy;obtain⟨t,rfl⟩:=ry;unfold eqD;exact RcNeAt.tuple_int b t p hu0
  |str b=>obtain rfl:y = .str b:=hy;obtain⟨t,rfl⟩:=ry;unfold eqD;exact RcNeAt.tuple_str b t p hu0
  |lst es=>obtain⟨b,ys,rfl,hq',_⟩:=hy;obtain rfl:v=Value.ref b:=ry;obtain⟨its',_,p',_⟩:=I.list hq';unfold eqD;exact RcNeAt.tuple_list p p'.isList hu0
  |tup es=>
   obtain⟨b,ys,rfl,hq',hl'⟩:=hy
   obtain rfl:v=Value.ref b:=ry
   obtain⟨its',rv',p',_⟩:=I.tuple hq'
   have p':s.heap.IsTuple b its'.toArray:=p'
   have he:=nT (A:=A.in1) (s:=s) hl rv hl' rv' (λd e x y u v ⟨j,hj⟩ r1 r2 s1 s2=>(I.eq_sh 100 A.in1 d e x y u v (c9 (uA hj) hdd) (by show A.units+1+100<cLine;omega) r1 r2 s1 s2).2)
   have rc:=RcNeAt.tuples p p' hu0 he
   have l1:=hl.length
   have l2:=rv.length
   have l3:=hl'.length
   have l4:=rv'.length
   rw[ar,ar,<- l2,<- l4,<- l1,<- l3,lG] at rc
   unfold eqD
   exact rc
 |lst ds=>
  have hdd:lV ds<=100:=by unfold dep at hd;omega
  obtain⟨a,xs,rfl,hq,hl⟩:=hx
  obtain rfl:u=Value.ref a:=rx
  obtain⟨its,rv,p,_⟩:=I.list hq
  have p:=p.isList
  cases e with
  |non=>obtain rfl:y = .non:=hy;obtain rfl:v=Value.none:=ry;unfold eqD;exact RcNeAt.list_none p hu0
  |bl b=>obtain rfl:y = .bl b:=hy;obtain rfl:v=Value.bool b:=ry;unfold eqD;exact RcNeAt.list_bool b p hu0
  |int b=>obtain rfl:y = .int b:=hy;obtain⟨t,rfl⟩:=ry;unfold eqD;exact RcNeAt.list_int b t p hu0
  |str b=>obtain rfl:y = .str b:=hy;obtain⟨t,rfl⟩:=ry;unfold eqD;exact RcNeAt.list_str b t p hu0
  |tup es=>obtain⟨b,ys,rfl,hq',_⟩:=hy;obtain rfl:v=Value.ref b:=ry;obtain⟨its',_,p',_⟩:=I.tuple hq';unfold eqD;exact RcNeAt.list_tuple p (show s.heap.IsTuple b its'.toArray from p') hu0
  |lst es=>
   obtain⟨b,ys,rfl,hq',hl'⟩:=hy
   obtain rfl:v=Value.ref b:=ry
   obtain⟨its',rv',p',_⟩:=I.list hq'
   have p':=p'.isList
   have l1:=hl.length
   have l2:=rv.length
   have l3:=hl'.length
   have l4:=rv'.length
   unfold eqD
   by_cases hz:ds.length=es.length
   ·have he:=nT (A:=A.in1) (s:=s) hl rv hl' rv' (λd e x y u v ⟨j,hj⟩ r1 r2 s1 s2=>(I.eq_sh 100 A.in1 d e x y u v (c9 (uA hj) hdd) (by show A.units+1+100<cLine;omega) r1 r2 s1 s2).2)
    have rc:=RcNeAt.lists p p' (by rw[ar,ar];omega) hu0 he
    rw[ar,<- l2,<- l1] at rc
    have q:=lG ds es
    rw[<- hz,Nat.min_self,beq_self_eq_true,zx] at q
    rw[<- q]
    exact rc
   ·have q:eqL ds es=false:=by
     cases q:eqL ds es with
     |false=>rfl
     |true=>exact absurd (lO q) hz
    rw[q]
    exact RcNeAt.lists_lengths p p' (by rw[ar,ar];simp;omega) hu0
def vA (K:ae):R2:=λx y H Q=>∃d e,dep d<=100/\Sh K H d x/\Sh K H e y/\Q (.bl (!eqD d e)) H
theorem aJb (hu:X.A.units+101<cLine):OpR X (gj .NotEq) (vA X.K):=by
 intro pins s σ H x y v u Q I rx ry ⟨d,e,hd,hx,hy,q⟩
 exact(I.ne_sh d e x y v u hd hu rx ry hx hy) X.prog X.w X.xe _ ⟨.bl _,H,I,rfl,q⟩
def aEP:Dt->String->Bool
 | .non,_=>false
 | .bl _,T=>T == "bool" || T == "int"
 | .int _,T=>T == "int"
 | .str _,T=>T == "str"
 | .tup _,T=>T == "tuple"
 | .lst _,T=>T == "list"
def vF (K:ae):List V->Hp->VK->Prop:=λvs H Q=>∃x d T,vs=[x, .ty T]/\(T="int"\/T="bool"\/T="tuple"\/T="list"\/T="str")/\Sh K H d x/\Q (.bl (aEP d T)) H
theorem aEj:CallR X (.builtin "isinstance") (vF X.K):=by
 intro pins s σ H xs us Q I r ⟨x,d,T,e,hT,hx,q⟩
 subst e
 obtain⟨u,w',rfl,rx,rt⟩:=r.two
 obtain rfl:w'=Value.type T:=rt
 have fin:∀(b:Bool) (t:Nat),aEP d T=b->EP X pins σ Q (.bool b) { s with toks:=t }:=λb t e=>⟨.bl b,H,I.tok t,rfl,by rw[<- e];exact q⟩
 have fin0:∀(b:Bool),aEP d T=b->EP X pins σ Q (.bool b) s:=λb e=>⟨.bl b,H,I,rfl,by rw[<- e];exact q⟩
 cases d with
 |non=>
  obtain rfl:x = .non:=hx
  obtain rfl:u=Value.none:=rx
  rcases hT with rfl | rfl | rfl | rfl | rfl
  ·exact IsiPair.NoneType_int (fin _ _ rfl)
  ·exact IsiPair.NoneType_bool (fin _ _ rfl)
  ·exact IsiPair.NoneType_tuple (fin _ _ rfl)
  ·exact IsiPair.NoneType_list (fin _ _ rfl)
  ·exact IsiPair.NoneType_str (fin _ _ rfl)
 |bl b=>
  obtain rfl:x = .bl b:=hx
  obtain rfl:u=Value.bool b:=rx
  rcases hT with rfl | rfl | rfl | rfl | rfl
  ·exact IsiPair.bool_int (fin0 _ rfl)
  ·exact IsiPair.bool_bool (fin0 _ rfl)
  ·exact IsiPair.bool_tuple (fin _ _ rfl)
  ·exact IsiPair.bool_list (fin _ _ rfl)
  ·exact IsiPair.bool_str (fin _ _ rfl)
 |int b=>
  obtain rfl:x = .int b:=hx
  obtain⟨t,rfl⟩:=rx
  rcases hT with rfl | rfl | rfl | rfl | rfl
  ·exact IsiPair.int_int (fin0 _ rfl)
  ·exact IsiPair.int_bool (fin _ _ rfl)
  ·exact IsiPair.int_tuple (fin _ _ rfl)
  ·exact IsiPair.int_list (fin _ _ rfl)
  ·exact IsiPair.int_str (fin _ _ rfl)
 |str b=>
  obtain rfl:x = .str b:=hx
  obtain⟨t,rfl⟩:=rx
  rcases hT with rfl | rfl | rfl | rfl | rfl
  ·exact IsiPair.str_int (fin _ _ rfl)
  ·exact IsiPair.str_bool (fin _ _ rfl)
  ·exact IsiPair.str_tuple (fin _ _ rfl)
  ·exact IsiPair.str_list (fin _ _ rfl)
  ·exact IsiPair.str_str (fin0 _ rfl)
 |tup ds=>
  obtain⟨a,ys,rfl,hq,_⟩:=hx
  obtain rfl:u=Value.ref a:=rx
  obtain⟨its,_,⟨o,ho,hc,_⟩,_⟩:=I.tuple hq
  rcases hT with rfl | rfl | rfl | rfl | rfl
  ·exact IsiPair.tuple_int ho hc (fin _ _ rfl)
  ·exact IsiPair.tuple_bool ho hc (fin _ _ rfl)
  ·exact IsiPair.tuple_tuple ho hc (fin0 _ rfl)
  ·exact IsiPair.tuple_list ho hc (fin _ _ rfl)
  ·exact IsiPair.tuple_str ho hc (fin _ _ rfl)
 |lst ds=>
  obtain⟨a,ys,rfl,hq,_⟩:=hx
  obtain rfl:u=Value.ref a:=rx
  obtain⟨its,_,p,_⟩:=I.list hq
  obtain⟨o,ho,hc,_⟩:=p.isList
  rcases hT with rfl | rfl | rfl | rfl | rfl
  ·exact IsiPair.list_int ho hc (fin _ _ rfl)
  ·exact IsiPair.list_bool ho hc (fin _ _ rfl)
  ·exact IsiPair.list_tuple ho hc (fin _ _ rfl)
  ·exact IsiPair.list_list ho hc (fin0 _ rfl)
  ·exact IsiPair.list_str ho hc (fin _ _ rfl)
theorem zC {prog:Program}{w:World}{A:Around}(hh:A.handled=none)(It ax:Addr)(hne:ax≠It)(items:Array Value) :
  Walks prog w A It [It,ax] [It] items.size (λi v=>items[i]?=some v) (λi h=>h.IsTupleIter It ax i/\h.IsTuple ax items) where
 sub:=λb hb=>by simp at hb;simp[hb]
 frame:=λ_ _ _ st hk=>⟨st.1.at λo e=>hk It (by simp) o e,let⟨o,e,r⟩:=st.2;⟨o,hk ax (by simp) o e,r⟩⟩
 item:=λi s Q E hi st hQ=>by
  refine wc st.1 st.2 (x:=items[i]) (by simp[hi]) λh' hit' hs'=>?_
  refine hQ _ h' s.toks (by simp[hi]) ⟨hit',?_⟩ λb o hb e=>hs'.extBut b o (λh=>hb (by simp[h])) e
  obtain⟨o,e,r⟩:=st.2
  exact⟨o,hs'.extBut _ _ hne e,r⟩
 done:=λs Q E st hQ=>xa hh st.1 st.2 (by simp) λh' he'=>hQ h' s.toks λb o hb e=>he' b o (λh=>hb (by simp[h])) e
 self:=λ_ _ _ _ st hQ=>xb st.1 hQ
def Sq (K:ae) (H:Hp) (a:Addr) (xs:List V):Prop:=SqL K H a xs\/SqT K H a xs
theorem uK {A:Around}{a:Addr}{xs:List V}{Q:Value->Shared->Prop}{E:Value->Shared->Prop}(hh:A.handled=none)(I:Inv X pins σ H s)(h:Sq X.K H a xs)
  (hq:∀(its:List Value) (It:Addr) (fp wr:List Addr) (S:Nat->Heap->Prop) (s2:Shared),Vals xs its->xs.length<=bx->Walks X.prog X.w A It fp wr its.length (λi v=>its[i]?=some v) S->S 0 s2.heap->(∀b∈fp,b<s2.heap.objs.size) ->
   (∀h' tk,(∀b o,b∉wr->s2.heap.get? b=some o->h'.get? b=some o)->Inv X pins σ H { s2 with heap:=h',toks:=tk })->Q (.ref It) s2):wpAny (model X.prog X.w) A (zv (.ref a)) Q E s:=by
 rcases h with h | h
 ·obtain⟨its,rv,p,hz⟩:=I.list h
  refine qq p.isList ?_
  have ha:a<s.heap.objs.size:=by obtain⟨o,e,_⟩:=p.isList;exact bj e
  refine hq its s.heap.objs.size [s.heap.objs.size,a] [s.heap.objs.size] (λi h=>h.IsListIter s.heap.objs.size a i/\h.IsList a its.toArray) _ rv hz (by simpa using Walks.list (prog:=X.prog) (w:=X.w) hh s.heap.objs.size a (c6 ha) its.toArray) ⟨⟨_,ay _ rfl,rfl,rfl⟩,?_⟩ (λb hb=>?_) λh' tk hk=>?_
  ·obtain⟨o,e,r⟩:=p.isList
   exact⟨o,aj _ e,r⟩
  ·simp at hb
   show b<(s.heap.push _).objs.size
   rw[e8]
   rcases hb with rfl | rfl
   ·exact jo _
   ·exact fj ha
  ·exact I.kept λb o e=>hk b o (by simpa using c6 (bj e)) (aj _ e)
 ·obtain⟨its,rv,p,hz⟩:=I.tuple h
  have p:s.heap.IsTuple a its.toArray:=p
  refine qd p ?_
  have ha:a<s.heap.objs.size:=by obtain⟨o,e,_⟩:=p;exact bj e
  refine hq its s.heap.objs.size [s.heap.objs.size,a] [s.heap.objs.size] (λi h=>h.IsTupleIter s.heap.objs.size a i/\h.IsTuple a its.toArray) _ rv hz (by simpa using zC (prog:=X.prog) (w:=X.w) hh s.heap.objs.size a (c6 ha) its.toArray) ⟨⟨_,ay _ rfl,rfl,rfl⟩,?_⟩ (λb hb=>?_) λh' tk hk=>?_
  ·obtain⟨o,e,r⟩:=p
   exact⟨o,aj _ e,r⟩
  ·simp at hb
   show b<(s.heap.push _).objs.size
   rw[e8]
   rcases hb with rfl | rfl
   ·exact jo _
   ·exact fj ha
  ·exact I.kept λb o e=>hk b o (by simpa using c6 (bj e)) (aj _ e)
theorem Vals.getR:∀{xs:List V}{us:List Value}{i:Nat}{u:Value},Vals xs us->us[i]?=some u->∃x,xs[i]?=some x/\RelV x u
 |_,_,_,_, .nil,e=>by simp at e
 |_,_,0,_, .cons r _,e=>by simp at e;subst e;exact⟨_,rfl,r⟩
 |_,_,i+1,u, .cons _ t,e=>by
  obtain⟨x,h1,h2⟩:=Vals.getR (i:=i) (u:=u) t (by simpa using e)
  exact⟨x,by simpa using h1,h2⟩
theorem aDK (hc:X.calm=true):CallR X (.builtin "all") (λvs H Q=>∃(a:Addr) (bs:List Bool),vs=[.ref a]/\Sq X.K H a (bs.map V.bl)/\Q (.bl (bs.all id)) H):=by
 intro pins s σ H xs us Q I r ⟨a,bs,e,hq,q⟩
 subst e
 obtain⟨u,rfl,ru⟩:=r.one
 obtain rfl:u=Value.ref a:=ru
 refine call_all_walk (uK (I.ok.hd hc) I hq λits It fp wr S s2 rv hz W st hf hI=>?_)
 refine⟨It,fp,wr,its.length,_,S,λj=>bs.getD j false,rfl,W,st,λi v s' Q' E' hv hQ'=>?_,λh' tk hk=>?_⟩
 ·obtain⟨x,hx,rx⟩:=rv.getR hv
  rw[bh] at hx
  cases hb:bs[i]? with
  |none=>rw[hb] at hx;cases hx
  |some b=>
   rw[hb] at hx
   obtain rfl:V.bl b=x:=by simpa using hx
   obtain rfl:v=Value.bool b:=rx
   have:bs.getD i false=b:=by rw[ak,hb];rfl
   have hQ':Q' (bs.getD i false) s':=hQ'
   rw[this] at hQ'
   exact gm hQ'
 ·refine⟨.bl (bs.all id),H,hI h' tk hk,?_,q⟩
  show Value.bool _=Value.bool _
  congr 1
  have hl:its.length=bs.length:=by rw[<- rv.length,af]
  rw[hl]
  clear q hq rv hl hz
  induction bs with
  |nil=>rfl
  |cons b bs ih=>rw[cy,jE,sf];exact congrArg (λz=>b && z) ih
theorem pA:∀(ns:List Int) (k:Nat),k<=ns.length->preSum (λj=>ns.getD j 0) k=(ns.take k).sum
 |ns,0,_=>by simp[preSum]
 |ns,k+1,h=>by
  have e:ns.take (k+1)=ns.take k++[ns[k]]:=by
   rw[fz,ah (by omega)];rfl
  have g:ns.getD k 0=ns[k]:=by rw[ak,ah (by omega)];rfl
  rw[preSum,pA ns k (by omega),e,List.sum_append_int,g]
  simp
theorem aEh (hc:X.calm=true):CallR X (.builtin "sum") (λvs H Q=>∃(a:Addr) (ns:List Int),vs=[.ref a]/\Sq X.K H a (ns.map V.int)/\Q (.int ns.sum) H):=by
 intro pins s σ H xs us Q I r ⟨a,ns,e,hq,q⟩
 subst e
 obtain⟨u,rfl,ru⟩:=r.one
 obtain rfl:u=Value.ref a:=ru
 refine call_sum_walkG (uK (I.ok.hd hc) I hq λits It fp wr S s2 rv hz W st hf hI=>?_)
 refine⟨It,fp,wr,its.length,_,S,λj=>ns.getD j 0,rfl,W,st,hf,λi v hv=>?_,λh' tk t' hk=>?_⟩
 ·obtain⟨x,hx,rx⟩:=rv.getR hv
  rw[bh] at hx
  cases hb:ns[i]? with
  |none=>rw[hb] at hx;cases hx
  |some b=>
   rw[hb] at hx
   obtain rfl:V.int b=x:=by simpa using hx
   obtain⟨t,rfl⟩:=rx
   exact⟨t,by show Value.int b t=Value.int (ns.getD i 0) t;rw[ak,hb];rfl⟩
 ·have hl:its.length=ns.length:=by rw[<- rv.length,af]
  refine⟨.int ns.sum,H,hI h' tk hk,⟨t',?_⟩,q⟩
  rw[hl,pA ns ns.length (ba _),dn]
end
section
variable {X:Cx}
def aIO (K:ae):R2:=λx y H Q=>∃a b xs ys,x = .ref a/\y = .ref b/\SqT K H a xs/\SqT K H b ys/\xs.length+ys.length<=bx /\
 ∀p H',((p=a/\H'=H/\ys=[])\/(p=b/\H'=H/\xs=[])\/(H p=none/\H'=upd H p (.tup (xs++ys))))->SqT K H' p (xs++ys)->Same H H'->Q (.ref p) H'
theorem aI {H:Hp}{p:Addr}(h:H p=none)(o:HO):Same H (upd H p o):=λb u q=>by rw[bC (bK q h)];exact q
theorem aFO:OpR X (lh .Add) (aIO X.K):=by
 intro pins s σ H x y v u Q I rx ry ⟨a,b,xs,ys,ex,ey,ha,hb,hz,q⟩
 subst ex ey
 obtain rfl:v=Value.ref a:=rx
 obtain rfl:u=Value.ref b:=ry
 by_cases hx:xs=[]
 ·obtain⟨its,r1,p1,_⟩:=I.tuple ha
  obtain⟨its2,r2,p2,_⟩:=I.tuple hb
  have he:its=[]:=r1.nil_iff.mpr hx
  obtain⟨⟨cls,dd,data,sl⟩,ho,hc,n,hd⟩:=id p1
  obtain⟨⟨cls2,dd2,data2,sl2⟩,ho2,hc2,n2,hd2⟩:=id p2
  simp only at hc hd hc2 hd2
  subst hc hd hc2 hd2
  refine Av ⟨_,ho,rfl⟩ ⟨_,ho2,rfl⟩ w8 zw qj qc (pe _ _)
   (tuple_addW0 a b its.toArray its2.toArray n n2 dd dd2 sl sl2 (by simp[he])) ⟨ho,ho2,?_⟩
  exact⟨.ref b,H,I,rfl,q b H (.inr (.inl ⟨rfl,rfl,hx⟩)) (by rw[hx];exact hb) (Same.refl H)⟩
 ·refine aFN (X:=X) pins s σ H (.ref a) (.ref b) (.ref a) (.ref b) Q I rfl rfl ⟨a,b,xs,ys,rfl,rfl,ha,hb,hx,hz,λhy=>?_,λhy p hp=>?_⟩
  ·exact q a H (.inl ⟨rfl,rfl,hy⟩) (by rw[hy,gu];exact ha) (Same.refl H)
  ·exact q p _ (.inr (.inr ⟨hp,rfl⟩)) (.of aG) (aI hp _)
def dD (K:ae):R2:=λx y H Q=>match x,y with
 | .int i, .int j=>Q (.int (i+j)) H
 | .str i, .str j=>i.length+j.length<=bx/\Q (.str (i++j)) H
 | .ref a, .ref b=>aKV (.ref a) (.ref b) H Q\/aIO K (.ref a) (.ref b) H Q
 |_,_=>False
theorem aGP:OpR X (lh .Add) (dD X.K):=by
 intro pins s σ H x y v u Q I rx ry h
 unfold dD at h
 split at h
 ·exact aIS (X:=X) pins s σ H _ _ v u Q I rx ry ⟨_,_,rfl,rfl,h⟩
 ·exact aBl (X:=X) pins s σ H _ _ v u Q I rx ry ⟨_,_,rfl,rfl,h.1,h.2⟩
 ·rcases h with h | h
  ·exact aIv (X:=X) pins s σ H _ _ v u Q I rx ry h
  ·exact aFO (X:=X) pins s σ H _ _ v u Q I rx ry h
 ·exact h.elim
theorem aKi:IxR X (λx y H Q=>aJm X.K x y H Q\/aJu X.K x y H Q):=aGU.or aHl
theorem Vals.of_get:∀{xs:List V}{us:List Value},xs.length=us.length->(∀(i:Nat) x u,xs[i]?=some x->us[i]?=some u->RelV x u)->Vals xs us
 |[],[],_,_ => .nil
 |[],_ :: _,h,_=>by simp at h
 |_ :: _,[],h,_=>by simp at h
 |x :: xs,u :: us,h,hr => .cons (hr 0 x u rfl rfl) (Vals.of_get (by simpa using h) λi y w h1 h2=>hr (i+1) y w (by simpa using h1) (by simpa using h2))
def aGk (lo hi:Int):List Int:=(aq (hi - lo).toNat).map λi:Nat=>lo+(i:Int)
theorem uP (hc:X.calm=true):CallR X (.type "list") (λvs H Q=>∃(a:Addr) (lo hi:Int),vs=[.ref a]/\H a=some (.rng lo hi)/\(-(2 ^ 62)<=lo/\lo<2 ^ 62/\-(2 ^ 62)<=hi/\hi<2 ^ 62/\hi - lo<=1000000) /\
  ∀p,H p=none->Q (.ref p) (upd H p (.lst ((aGk lo hi).map V.int)))):=by
 intro pins s σ H xs us Q I r ⟨a,lo,hi,e,ha,⟨b1,b2,b3,b4,b5⟩,q⟩
 subst e
 obtain⟨u,rfl,ru⟩:=r.one
 obtain rfl:u=Value.ref a:=ru
 obtain⟨t,u,v,hr⟩:=I.hok a _ ha
 refine call_list_range (a:=lo) (b:=hi) (c:=1) (n:=(hi - lo).toNat) (I.ok.hd hc) hr (small_one b1 b2 b3 b4) (by rw[rangeSize_one];split <;> omega) (by omega) λh' tk acc' c' hk hS hI=>?_
 refine⟨.ref s.heap.objs.size,_,I.laid (a:=s.heap.objs.size) (o := .lst ((aGk lo hi).map V.int)) hk (ba _) ⟨?_,acc'.toList,c',?_,by simpa using hS⟩,rfl,q _ (I.hok.fresh (ba _))⟩
 ·rw[af];unfold aGk;rw[af,e7]
  exact c9 (show(hi - lo).toNat<=1000000 by omega) (by decide)
 ·refine Vals.of_get ?_ λi x u hx hu=>?_
  ·have el:acc'.toList.length=(hi - lo).toNat:=by rw[<- hI.1];simp
   rw[af,el];unfold aGk;rw[af,e7]
  ·obtain⟨t,rfl⟩:=hI.2 i u (by simpa using hu)
   rw[bh] at hx
   unfold aGk at hx
   rw[bh] at hx
   cases hi':(aq (hi - lo).toNat)[i]? with
   |none=>rw[hi'] at hx;cases hx
   |some j=>
    rw[hi'] at hx
    have:j=i:=by
     obtain⟨h1,h2⟩:=ai.mp hi'
     simpa using h2.symm
    subst this
    obtain rfl:V.int (lo+(j:Int))=x:=by simpa using hx
    exact⟨t,by rw[kl]⟩
theorem tP (hc:X.calm=true):CallR X (.type "list") (λvs H Q=>(∃p ys,vs=[.ref p]/\(SqL X.K H p ys\/SqT X.K H p ys)/\∀l,H l=none->Q (.ref l) (upd H l (.lst ys))) \/
  ∃(a:Addr) (lo hi:Int),vs=[.ref a]/\H a=some (.rng lo hi)/\(-(2 ^ 62)<=lo/\lo<2 ^ 62/\-(2 ^ 62)<=hi/\hi<2 ^ 62/\hi - lo<=1000000)/\∀p,H p=none->Q (.ref p) (upd H p (.lst ((aGk lo hi).map V.int)))):=vT.or (uP hc)
def fU (K:ae) (tl:TE):TI:=λσ H R=>tl σ H λx H1=>∃a,x = .ref a/\(((∃xs,SqL K H1 a xs)/\R (Itl K a) H1)\/((∃xs,SqT K H1 a xs)/\R (Itt K a) H1))
theorem aIy {tg l:Expr}{tl:TE}(hl:PE X l tl):PI X tg l (fU X.K tl):=by
 intro pins s σ H R I h
 refine thn (hl pins s σ H _ I h) λv s1 ⟨x,H1,I1,r1,q1⟩=>?_
 obtain⟨a,e,q⟩:=q1
 subst e
 cases r1
 rcases q with⟨⟨xs,hq⟩,q⟩ | ⟨⟨xs,hq⟩,q⟩
 ·obtain⟨its,rv,p,hz⟩:=I1.list hq
  refine qq p.isList ?_
  refine⟨s1.heap.objs.size,[s1.heap.objs.size],_,_,H1,rfl,I1.kept (t':=s1.toks) λb o e=>aj _ e,aBQ a _,⟨_,ay _ rfl,rfl,rfl⟩,λb hb=>?_,q⟩
  have e:b=s1.heap.objs.size:=by simpa using hb
  subst e
  exact I1.fpOk (ba _) (I1.hok.fresh (ba _))
 ·obtain⟨its,rv,p,hz⟩:=I1.tuple hq
  refine qd (show s1.heap.IsTuple a its.toArray from p) ?_
  refine⟨s1.heap.objs.size,[s1.heap.objs.size],_,_,H1,rfl,I1.kept (t':=s1.toks) λb o e=>aj _ e,aBh a _,⟨_,ay _ rfl,rfl,rfl⟩,λb hb=>?_,q⟩
  have e:b=s1.heap.objs.size:=by simpa using hb
  subst e
  exact I1.fpOk (ba _) (I1.hok.fresh (ba _))
end
structure Def (P:Program)(w:World)(K:ae)(mg:Str->Option Value)(base:Heap)(x:Str)(k:Nat)(ps:List Str)(sp:Sp):Prop where
 ex:∃(f:Addr) (fd:FuncData),FnOk P w K mg base CX0 k f fd ps sp/\mg x=some (.ref f)/\n5 K (.ref f)=true/\Binds K fd ps []
theorem Def.mono {P:Program}{w:World}{K:ae}{mg:Str->Option Value}{base:Heap}{x:Str}{j k:Nat}{ps:List Str}{sp:Sp}(D:Def P w K mg base x j ps sp)(h:j<=k):Def P w K mg base x k ps sp:=by
 obtain⟨f,fd,F,r⟩:=D.ex
 exact⟨f,fd,F.mono h,r⟩
theorem aR {X:Cx}{x:Str}{k:Nat}{ps:List Str}{sp:Sp}{p pos:Pos}{e:Expr}{es:List Expr}{t:TA}(D:Def X.prog X.w X.K X.mg X.base x k ps sp)(hr:Room k X.A)(hg:Gl X x)(ha:PA X (e :: es) t)
  (hdb:(x == ("__debug__" : Str))=false:=by decide) (he:fi (e :: es) X.env=(false,eval e X.env) :: fi es X.env:=by rfl) (hpl:(vo pos (fi es X.env)).any (·.1)=false:=by rfl) :
  PE X (.Call (.Name x p) (e :: es) [] pos) (aY sp [] E0 t):=by
 obtain⟨f,fd,F,hm,hk,hb⟩:=D.ex
 exact aCB F hr hg hm hk hb .nil aJY ha hdb he hpl
def SameX (acc:Addr) (H H':Hp):Prop:=∀b o,b≠acc->H b=some o->H' b=some o
theorem SameX.refl (acc:Addr)(H:Hp):SameX acc H H:=λ_ _ _ h=>h
theorem SameX.trans {acc:Addr}{H H1 H2:Hp}(a:SameX acc H H1)(b:SameX acc H1 H2):SameX acc H H2:=λc o n h=>b c o n (a c o n h)
theorem Same.x {acc:Addr}{H H':Hp}(e:Same H H'):SameX acc H H':=λb o _ h=>e b o h
theorem SameX.put {acc:Addr}{H:Hp}(o:HO):SameX acc H (upd H acc o):=λb u n h=>by rw[bC n];exact h
def Agree (vars:List Nat) (σ σ':St):Prop:=∀k,k∉vars->σ'[k]?=σ[k]?
theorem Agree.refl (vars:List Nat)(σ:St):Agree vars σ σ:=λ_ _=>rfl
theorem Agree.trans {vars:List Nat}{σ σ1 σ2:St}(a:Agree vars σ σ1)(b:Agree vars σ1 σ2):Agree vars σ σ2:=λk h=>(b k h).trans (a k h)
theorem Agree.set {vars:List Nat}{σ:St}{j:Nat}(h:j∈vars)(v:Option V):Agree vars σ (σ.set j v):=λk hk=>dv (λe:j=k=>hk (by rw[<- e];exact h))
theorem gK {σ:St}{j:Nat}{v:Option V}(h:j<σ.length):(σ.set j v)[j]?=some v:=jr h
def Emits (vars:List Nat) (tb:TS) (acc:Addr) (σ:St) (H:Hp) (L:List V):Prop:=
 ∀(D:mB) (pre:List V),H acc=some (.lst pre)->pre.length+L.length<=1000000->(∀σ' H',σ'.length=σ.length->Agree vars σ σ'->SameX acc H H'->H' acc=some (.lst (pre++L))->D.nx σ' H')->tb D σ H
theorem cL {vars:List Nat}{te:TE}{acc:Addr}{σ:St}{H:Hp}{x:V}(h:∀Q:VK,(∀H',Same H H'->Q x H')->te σ H Q):Emits vars (cP te acc) acc σ H [x]:=by
 intro D pre ha hz hd
 refine h _ λH' e=>⟨pre,e _ _ ha,?_,hd σ _ rfl (Agree.refl _ _) (e.x.trans (SameX.put _)) aG⟩
 exact bo (show pre.length<=1000000 by simp at hz;omega) (by decide)
theorem aT {α:Type}(f:Nat->List α)(i:Nat):(aq (i+1)).flatMap f=(aq i).flatMap f++f i:=by
 rw[xq,List.flatMap_append]
 simp
theorem cR {α:Type}(f:Nat->List α){i n:Nat}(h:i<=n):((aq i).flatMap f).length<=((aq n).flatMap f).length:=by
 induction h with
 |refl=>exact ba _
 |step _ ih=>rw[aT,bc];omega
theorem iZ {vars:List Nat}{tb:TS}{acc:Addr}{σ:St}{H:Hp}{lo:Int}{n j:Nat}{L:Nat->List V}(hj:j∈vars)(hjl:j<σ.length)
  (h:∀i σ' H',i<n->σ'.length=σ.length->Agree vars σ σ'->σ'[j]?=some (some (.int (lo+(i:Int))))->SameX acc H H'->(∃pre,H' acc=some (.lst pre))->Emits vars tb acc σ' H' (L i)) :
  Emits vars (gL (Itr lo n) (aJ j) tb) acc σ H ((aq n).flatMap L):=by
 intro D pre ha hz hd
 refine cZ (lo:=lo) (n:=n) (g:=aJ j) (D:=D) (λi σ' H'=>i<=n/\σ'.length=σ.length/\Agree vars σ σ'/\SameX acc H H'/\H' acc=some (.lst (pre++(aq i).flatMap L))) ⟨av _,rfl,Agree.refl _ _,SameX.refl _ _,by simpa using ha⟩ (λi σ1 H1 hi ⟨_,hl1,ag1,sx1,h1⟩=>?_) λσ1 H1 ⟨_,hl1,ag1,sx1,h1⟩=>hd σ1 H1 hl1 ag1 sx1 h1
 have hle:=cR L (show i+1<=n from hi)
 rw[aT,bc] at hle
 have fin:∀σ' H',σ'.length=σ1.length->Agree vars (σ1.set j (some (.int (lo+(i:Int))))) σ'->SameX acc H1 H'->H' acc=some (.lst ((pre++(aq i).flatMap L)++L i)) ->
   (i+1<=n/\σ'.length=σ.length/\Agree vars σ σ'/\SameX acc H H'/\H' acc=some (.lst (pre++(aq (i+1)).flatMap L))):=λσ' H' hl ag sx h2=>
  ⟨hi,hl.trans hl1,(ag1.trans (Agree.set hj _)).trans ag,sx1.trans sx,by rw[h2,aT,gz]⟩
 refine h i (σ1.set j (some (.int (lo+(i:Int))))) H1 hi (by rw[df];exact hl1) (ag1.trans (Agree.set hj _)) (gK (by omega)) sx1 ⟨_,h1⟩ _ _ h1 (by rw[bc];omega) λσ' H' hl ag sx h2=>fin σ' H' (hl.trans (df ..)) ag sx h2
theorem wZ {vars:List Nat}{ta:TA}{tb:TS}{acc:Addr}{σ:St}{H:Hp}{n j:Nat}{L:Nat->List V}(hj:j∈vars)(hjl:j<σ.length)(hn:n<=1000000)
  (hta:∀Q:List V->Hp->Prop,(∀H',Same H H'->Q [.int (n:Int)] H')->ta σ H Q)
  (h:∀i σ' H',i<n->σ'.length=σ.length->Agree vars σ σ'->σ'[j]?=some (some (.int (i:Int)))->SameX acc H H'->(∃pre,H' acc=some (.lst pre))->Emits vars tb acc σ' H' (L i)) :
  Emits vars (kL (iC ta) (aJ j) tb) acc σ H ((aq n).flatMap L):=by
 intro D pre ha hz hd
 refine hta _ λH' e=>⟨(n:Int),rfl,by omega,by omega,?_⟩
 rw[bu]
 refine iZ (L:=L) hj hjl (λi σ' H2 hi hl ag hs sx hp=>h i σ' H2 hi hl ag (by rw[hs];simp) (e.x.trans sx) hp) D pre (e _ _ ha) hz λσ' H2 hl ag sx h2=>hd σ' H2 hl ag (e.x.trans sx) h2
theorem fQ {K:ae}{vars:List Nat}{tb:TS}{acc a:Addr}{σ:St}{H:Hp}{xs:List V}{j:Nat}{L:Nat->List V}(hj:j∈vars)(hjl:j<σ.length)(hs:∀H',SameX acc H H'->SqL K H' a xs)
  (h:∀i x σ' H',xs[i]?=some x->σ'.length=σ.length->Agree vars σ σ'->σ'[j]?=some (some x)->SameX acc H H'->(∃pre,H' acc=some (.lst pre))->Emits vars tb acc σ' H' (L i)) :
  Emits vars (gL (Itl K a) (aJ j) tb) acc σ H ((aq xs.length).flatMap L):=by
 intro D pre ha hz hd
 refine bJ (K:=K) (a:=a) (xs:=xs) (g:=aJ j) (D:=D) (λi σ' H'=>i<=xs.length/\σ'.length=σ.length/\Agree vars σ σ'/\SameX acc H H'/\H' acc=some (.lst (pre++(aq i).flatMap L))) ⟨av _,rfl,Agree.refl _ _,SameX.refl _ _,by simpa using ha⟩ (λi σ1 H1 _ ⟨_,_,_,sx1,_⟩=>hs H1 sx1) (λi x σ1 H1 hx ⟨_,hl1,ag1,sx1,h1⟩=>?_) λσ1 H1 ⟨_,hl1,ag1,sx1,h1⟩=>hd σ1 H1 hl1 ag1 sx1 h1
 have hi:i<xs.length:=(ai.mp hx).1
 have hle:=cR L (show i+1<=xs.length from hi)
 rw[aT,bc] at hle
 have fin:∀σ' H',σ'.length=σ1.length->Agree vars (σ1.set j (some x)) σ'->SameX acc H1 H'->H' acc=some (.lst ((pre++(aq i).flatMap L)++L i)) ->
   (i+1<=xs.length/\σ'.length=σ.length/\Agree vars σ σ'/\SameX acc H H'/\H' acc=some (.lst (pre++(aq (i+1)).flatMap L))):=λσ' H' hl ag sx h2=>
  ⟨hi,hl.trans hl1,(ag1.trans (Agree.set hj _)).trans ag,sx1.trans sx,by rw[h2,aT,gz]⟩
 refine h i x (σ1.set j (some x)) H1 hx (by rw[df];exact hl1) (ag1.trans (Agree.set hj _)) (gK (by omega)) sx1 ⟨_,h1⟩ _ _ h1 (by rw[bc];omega) λσ' H' hl ag sx h2=>fin σ' H' (hl.trans (df ..)) ag sx h2
theorem aEK {K:ae}{vars:List Nat}{tb:TS}{acc a:Addr}{σ:St}{H:Hp}{xs:List V}{j:Nat}{L:Nat->List V}(hj:j∈vars)(hjl:j<σ.length)(hs:∀H',SameX acc H H'->SqT K H' a xs)
  (h:∀i x σ' H',xs[i]?=some x->σ'.length=σ.length->Agree vars σ σ'->σ'[j]?=some (some x)->SameX acc H H'->(∃pre,H' acc=some (.lst pre))->Emits vars tb acc σ' H' (L i)) :
  Emits vars (gL (Itt K a) (aJ j) tb) acc σ H ((aq xs.length).flatMap L):=by
 intro D pre ha hz hd
 refine aBT (K:=K) (a:=a) (xs:=xs) (g:=aJ j) (D:=D) (λi σ' H'=>i<=xs.length/\σ'.length=σ.length/\Agree vars σ σ'/\SameX acc H H'/\H' acc=some (.lst (pre++(aq i).flatMap L))) ⟨av _,rfl,Agree.refl _ _,SameX.refl _ _,by simpa using ha⟩ (λi σ1 H1 _ ⟨_,_,_,sx1,_⟩=>hs H1 sx1) (λi x σ1 H1 hx ⟨_,hl1,ag1,sx1,h1⟩=>?_) λσ1 H1 ⟨_,hl1,ag1,sx1,h1⟩=>hd σ1 H1 hl1 ag1 sx1 h1
 have hi:i<xs.length:=(ai.mp hx).1
 have hle:=cR L (show i+1<=xs.length from hi)
 rw[aT,bc] at hle
 have fin:∀σ' H',σ'.length=σ1.length->Agree vars (σ1.set j (some x)) σ'->SameX acc H1 H'->H' acc=some (.lst ((pre++(aq i).flatMap L)++L i)) ->
   (i+1<=xs.length/\σ'.length=σ.length/\Agree vars σ σ'/\SameX acc H H'/\H' acc=some (.lst (pre++(aq (i+1)).flatMap L))):=λσ' H' hl ag sx h2=>
  ⟨hi,hl.trans hl1,(ag1.trans (Agree.set hj _)).trans ag,sx1.trans sx,by rw[h2,aT,gz]⟩
 refine h i x (σ1.set j (some x)) H1 hx (by rw[df];exact hl1) (ag1.trans (Agree.set hj _)) (gK (by omega)) sx1 ⟨_,h1⟩ _ _ h1 (by rw[bc];omega) λσ' H' hl ag sx h2=>fin σ' H' (hl.trans (df ..)) ag sx h2
theorem cD:e9 "len" = some (.builtin "len"):=by decide+kernel
theorem rV:e9 "all" = some (.builtin "all"):=by decide+kernel
theorem aFj:e9 "min" = some (.builtin "min"):=by decide+kernel
theorem aHH:e9 "sum" = some (.builtin "sum"):=by decide+kernel
theorem fM:e9 "isinstance" = some (.builtin "isinstance"):=by decide+kernel
theorem kA:e9 "sorted" = some (.builtin "sorted"):=by decide+kernel
theorem dL:e9 "tuple" = some (.type "tuple"):=by decide+kernel
theorem kZ:e9 "list" = some (.type "list"):=by decide+kernel
theorem aFw:e9 "int" = some (.type "int"):=by decide+kernel
theorem aBK:e9 "bool" = some (.type "bool"):=by decide+kernel
structure Blt (mg:Str->Option Value):Prop where
 len:mg "len" = none
 all:mg "all" = none
 min:mg "min" = none
 max:mg "max" = none
 sum:mg "sum" = none
 isi:mg "isinstance" = none
 sorted:mg "sorted" = none
 tuple:mg "tuple" = none
 list:mg "list" = none
 range:mg "range" = none
 int:mg "int" = none
 bool:mg "bool" = none
end L2
namespace L2
open PySem
theorem aJF {A:Around}{k:Nat}(hr:Room k A):A.units+100<cLine:=by have:=hr.un;omega
theorem aIa {A:Around}{k:Nat}(hr:Room k A):A.units+101<cLine:=by have:=hr.un;omega
end L2
namespace L2
open PySem PySem.Spec PyProof.Rows
section
variable {X:Cx}{K:ae}
theorem aN (hK:X.K=K):IxR X (λx y H Q=>aJm K x y H Q\/aJu K x y H Q):=by subst hK;exact aKi
theorem bV (hK:X.K=K):OpR X (lh .Add) (dD K):=by subst hK;exact aGP
theorem dR {k:Nat}(hK:X.K=K)(hr:Room k X.A):OpR X (gj .Eq) (gE K):=by subst hK;exact aIA (aJF hr)
theorem fE {k:Nat}(hK:X.K=K)(hr:Room k X.A):OpR X (gj .NotEq) (vA K):=by subst hK;exact aJb (aIa hr)
theorem aAh (hK:X.K=K):OpR X (gj .In) (rIn K false):=by subst hK;exact aCJ
theorem aCA (hK:X.K=K):OpR X (gj .NotIn) (rIn K true):=by subst hK;exact mK
theorem cO (hK:X.K=K):CallR X (.builtin "isinstance") (vF K):=by subst hK;exact aEj
def iA (K:ae):List V->Hp->VK->Prop:=λxs H Q=>∃p ys,xs=[.ref p]/\(SqL K H p ys\/SqT K H p ys)/\Q (.int ys.length) H
theorem aV (hK:X.K=K):CallR X (.builtin "len") (iA K):=by subst hK;exact xF
def aFY (K:ae):List V->Hp->VK->Prop:=λvs H Q=>∃(a:Addr) (bs:List Bool),vs=[.ref a]/\Sq K H a (bs.map V.bl)/\Q (.bl (bs.all id)) H
theorem gI (hK:X.K=K)(hc:X.calm=true):CallR X (.builtin "all") (aFY K):=by subst hK;exact aDK hc
def aLa (K:ae):List V->Hp->VK->Prop:=λvs H Q=>∃(a:Addr) (ns:List Int),vs=[.ref a]/\Sq K H a (ns.map V.int)/\Q (.int ns.sum) H
theorem aBE (hK:X.K=K)(hc:X.calm=true):CallR X (.builtin "sum") (aLa K):=by subst hK;exact aEh hc
def sU:List V->Hp->VK->Prop:=λxs H Q=>∃i j:Int,xs=[.int i, .int j]/\Q (.int (if j<i then j else i)) H
theorem rK (hc:X.calm=true):CallR X (.builtin "min") sU:=aDb hc
def pS (K:ae):List V->Hp->VK->Prop:=λxs H Q=>∃p ys,xs=[.ref p]/\((SqL K H p ys/\∀l,H l=none->Q (.ref l) (upd H l (.tup ys)))\/(SqT K H p ys/\Q (.ref p) H))
theorem gT (hK:X.K=K):CallR X (.type "tuple") (pS K):=by subst hK;exact tI
def aBR (K:ae):List V->Hp->VK->Prop:=λvs H Q=>(∃p ys,vs=[.ref p]/\(SqL K H p ys\/SqT K H p ys)/\∀l,H l=none->Q (.ref l) (upd H l (.lst ys))) \/
  ∃(a:Addr) (lo hi:Int),vs=[.ref a]/\H a=some (.rng lo hi)/\(-(2 ^ 62)<=lo/\lo<2 ^ 62/\-(2 ^ 62)<=hi/\hi<2 ^ 62/\hi - lo<=1000000)/\∀p,H p=none->Q (.ref p) (upd H p (.lst ((aGk lo hi).map V.int)))
theorem iX (hK:X.K=K)(hc:X.calm=true):CallR X (.type "list") (aBR K):=by subst hK;exact tP hc
theorem bE {tg l:Expr}{tl:TE}(hK:X.K=K)(hl:PE X l tl):PI X tg l (fU K tl):=by subst hK;exact aIy hl
theorem bY {es:List Expr}{k:Nat}{t:TGs}{n:Nat}{pos:Pos}(hK:X.K=K)(hc:X.calm=true)(h:PGs X es t)(hn:(ql es X.env).length=n:=by rfl)(hst:(ql es X.env).findIdx? (·.1)=none:=by rfl):PG X (.Tuple es k pos) (jI K n t):=by
 subst hK;exact aIw hc h hn hst
end
abbrev yLt:R2:=rI0 λi j => .bl (decide (i<j))
abbrev yLe:R2:=rI0 λi j => .bl (decide (i<=j))
abbrev yGt:R2:=rI0 λi j => .bl (decide (j<i))
abbrev yGe:R2:=rI0 λi j => .bl (decide (j<=i))
abbrev oX:R2:=rI0 λi j => .int (i - j)
abbrev zF:R2:=rI (λ_ j=>0<j) λi j => .int (i % j)
abbrev aFA:R2:=rI aKS λi j => .int (i ^ j.toNat)
abbrev xU:V->Hp->VK->Prop:=rU λi => .int (-i)
abbrev aZ (K:ae):R2:=λx y H Q=>aJm K x y H Q\/aJu K x y H Q
end L2
namespace L2
open PySem
def uZ (T:List (List Int)):Dt := .tup (T.map λr => .tup (r.map .int))
structure Quad (T:List (List Int))(n:Nat):Prop where
 len:T.length=n
 row:∀r∈T,r.length=n
def at2 (T:List (List Int)) (i j:Nat):Int:=(T.getD i []).getD j 0
section
variable {K:ae}{H:Hp}{T:List (List Int)}{n:Nat}
theorem ShL.rows:∀{T:List (List Int)}{rs:List V},ShL K H (T.map λr=>Dt.tup (r.map Dt.int)) rs->rs.length=T.length/\∀(i:Nat) (row:List Int),T[i]?=some row->∃b,rs[i]?=some (.ref b)/\SqT K H b (row.map V.int)
 |[],rs,h=>by
  have h:rs=[]:=h
  subst h
  exact⟨rfl,λi row e=>by simp at e⟩
 |r :: T,rs,⟨x,rr,h1,⟨b,xs,h2,h3,h4⟩,h5⟩=>by
  obtain⟨e,g⟩:=ShL.rows h5
  subst h1
  refine⟨by rw[cy,cy,e],λi row er=>?_⟩
  cases i with
  |zero=>
   have:r=row:=by simpa using er
   subst this
   exact⟨b,by rw[h2];rfl,by rw[<- ShL.of_ints h4];exact h3⟩
  |succ i=>exact g i row (by simpa using er)
theorem Sh.tab {v:V}(h:Sh K H (uZ T) v):∃a rs,v = .ref a/\SqT K H a rs/\rs.length=T.length/\∀(i:Nat) (row:List Int),T[i]?=some row->∃b,rs[i]?=some (.ref b)/\SqT K H b (row.map V.int):=by
 obtain⟨a,rs,e,hq,hl⟩:=h
 obtain⟨e2,g⟩:=ShL.rows hl
 exact⟨a,rs,e,hq,e2,g⟩
theorem ShL.of_rows:∀{T:List (List Int)}{rs:List V},rs.length=T.length->(∀(i:Nat) (row:List Int),T[i]?=some row->∃b,rs[i]?=some (.ref b)/\SqT K H b (row.map V.int))->ShL K H (T.map λr=>Dt.tup (r.map Dt.int)) rs
 |[],rs,h,_=>mh.mp h
 |r :: T,[],h,_=>by simp at h
 |r :: T,x :: rs,h,g=>by
  obtain⟨b,e,hq⟩:=g 0 r rfl
  have e:x = .ref b:=by simpa using e
  exact⟨x,rs,rfl,⟨b,_,e,hq,ShL.ints r⟩,ShL.of_rows (by simpa using h) λi row er=>by
   obtain⟨c,e2,q2⟩:=g (i+1) row (by simpa using er)
   exact⟨c,by simpa using e2,q2⟩⟩
theorem Quad.get (q:Quad T n){i:Nat}(h:i<n):∃row,T[i]?=some row/\row.length=n/\T.getD i []=row:=by
 have hi:i<T.length:=by rw[q.len];exact h
 refine⟨T[i],ah hi,q.row _ (f6 hi),?_⟩
 rw[ak,ah hi];rfl
theorem zJ {xs:List Int}{j:Nat}(h:j<xs.length):xs[j]?=some (xs.getD j 0):=by
 rw[ak,ah h];rfl
theorem ixT {p:Addr}{xs:List V}{j:Nat}{v:V}{Q:VK}(h:SqT K H p xs)(hj:xs[j]?=some v)(q:Q v H):aZ K (.ref p) (.int (j:Int)) H Q := .inr ⟨p,xs,j,v,rfl,rfl,h,aCD hj,q⟩
theorem ixL {p:Addr}{xs:List V}{j:Nat}{v:V}{Q:VK}(h:SqL K H p xs)(hj:xs[j]?=some v)(q:Q v H):aZ K (.ref p) (.int (j:Int)) H Q := .inl ⟨p,xs,j,v,rfl,rfl,h,aCD hj,q⟩
theorem aFI {v:V}{i:Nat}{Q:VK}(hS:Sh K H (uZ T) v)(hq:Quad T n)(hi:i<n)(q:∀b,SqT K H b ((T.getD i []).map V.int)->Q (.ref b) H):aZ K v (.int (i:Int)) H Q:=by
 obtain⟨a,rs,rfl,ha,hl,g⟩:=hS.tab
 obtain⟨row,e1,e2,e3⟩:=hq.get hi
 obtain⟨b,hb,hs⟩:=g i row e1
 exact ixT ha hb (q b (by rw[e3];exact hs))
theorem pM {σ:St}{t si sj:Nat}{v:V}{i j:Nat}{Q:VK}(ht:σ[t]?=some (some v))(hi:σ[si]?=some (some (.int (i:Int))))(hj:σ[sj]?=some (some (.int (j:Int))))(hS:Sh K H (uZ T) v)(hq:Quad T n)(li:i<n)(lj:j<n)
  (q:Q (.int (at2 T i j)) H):tOp (aZ K) (tOp (aZ K) (aD t) (aD si)) (aD sj) σ H Q:=by
 refine⟨_,ht,_,hi,aFI hS hq li λb hb=>⟨_,hj,ixT hb ?_ q⟩⟩
 obtain⟨row,e1,e2,e3⟩:=hq.get li
 rw[bh,zJ (by rw[e3];omega)]
 rfl
end
theorem cI {acc:Addr}{H H2:Hp}{o:HO}(hacc:H acc=none)(sx:SameX acc (upd H acc o) H2):Same H H2:=λb u e=>sx b u (bK e hacc) (by rw[bC (bK e hacc)];exact e)
theorem Emits.mono {vars vars':List Nat}{tb:TS}{acc:Addr}{σ:St}{H:Hp}{L:List V}(h:Emits vars tb acc σ H L)(hs:∀k∈vars,k∈vars'):Emits vars' tb acc σ H L:=
 λD pre ha hz hd=>h D pre ha hz λσ' H' hl ag sx h2=>hd σ' H' hl (λk hk=>ag k λz=>hk (hs k z)) sx h2
theorem Emits.cast {vars:List Nat}{tb:TS}{acc:Addr}{σ:St}{H:Hp}{L L':List V}(h:Emits vars tb acc σ H L)(e:L=L'):Emits vars tb acc σ H L':=e ▸ h
theorem bP (vars:List Nat)(L:List V){g:TG}{J:It}{tb:TS}{acc:Addr}{σ:St}{H:Hp}{D:mB}(ha:H acc=none)(hz:L.length<=1000000)(h:Emits vars (gL J g tb) acc σ (upd H acc (.lst [])) L)
  (q:∀σ' H',Same H H'->H' acc=some (.lst L)->D.nx σ' H'):gL J g tb D σ (upd H acc (.lst [])):=
 h _ [] aG (by simpa using hz) λσ' H' _ _ sx h2=>q σ' H' (cI ha sx) (by simpa using h2)
theorem eP {α:Type}(f:Nat->List α)(c:Nat):∀n,(∀i,i<n->(f i).length<=c)->((aq n).flatMap f).length<=n*c
 |0,_=>by simp
 |n+1,h=>by
  rw[aT,bc,AN,Nat.one_mul]
  have:=eP f c n λi hi=>h i (by omega)
  have:=h n (by omega)
  omega
theorem mU {α β:Type}(g:α->β)(f:Nat->List α)(l:List Nat):(l.flatMap f).map g=l.flatMap λi=>(f i).map g:=by
 induction l with
 |nil=>rfl
 |cons x r ih=>rw[ly,bz,ih,ly]
theorem pX {α:Type}(p:α->Bool)(f:Nat->List α)(l:List Nat):(l.flatMap f).all p=l.all λi=>(f i).all p:=by
 induction l with
 |nil=>rfl
 |cons x r ih=>rw[ly,List.all_append,ih,sf]
section
variable {vars:List Nat}{tb:TS}{acc a:Addr}{σ:St}{H:Hp}{j:Nat}{D:mB}{K:ae}
theorem aCx {lo:Int}{n:Nat}(R:Nat->List V->Hp->Prop)(hj:j∈vars)(hjl:j<σ.length)(h0:R 0 [] (upd H acc (.lst [])))(ha:H acc=none)
  (h:∀i σ' H' L (D:mB),i<n->σ'.length=σ.length->Agree vars σ σ'->σ'[j]?=some (some (.int (lo+(i:Int))))->Same H H'->H' acc=some (.lst L)->R i L H' ->
   (∀σ'' H'' L',σ''.length=σ.length->Agree vars σ σ''->Same H H''->H'' acc=some (.lst L')->R (i+1) L' H''->D.nx σ'' H'')->tb D σ' H')
  (q:∀σ' H' L,Same H H'->H' acc=some (.lst L)->R n L H'->D.nx σ' H'):gL (Itr lo n) (aJ j) tb D σ (upd H acc (.lst [])):=by
 refine cZ (lo:=lo) (n:=n) (g:=aJ j) (D:=D) (λi σ' H'=>i<=n/\σ'.length=σ.length/\Agree vars σ σ'/\Same H H'/\∃L,H' acc=some (.lst L)/\R i L H') ⟨av _,rfl,Agree.refl _ _,aI ha _,[],aG,h0⟩ (λi σ1 H1 hi ⟨_,hl1,ag1,sx1,L,h1,r1⟩=>?_) λσ1 H1 ⟨_,_,_,sm,L,h1,r1⟩=>q σ1 H1 L sm h1 r1
 exact h i (σ1.set j (some (.int (lo+(i:Int))))) H1 L _ hi (by rw[df];exact hl1) (ag1.trans (Agree.set hj _)) (gK (by omega)) sx1 h1 r1 λσ2 H2 L' hl2 ag2 sm2 h2 r2=>⟨hi,hl2,ag2,sm2,L',h2,r2⟩
theorem aAz {xs:List V}(R:Nat->List V->Hp->Prop)(hj:j∈vars)(hjl:j<σ.length)(h0:R 0 [] (upd H acc (.lst [])))(ha:H acc=none)(hs:∀i L H',Same H H'->R i L H'->SqL K H' a xs)
  (h:∀i x σ' H' L (D:mB),xs[i]?=some x->σ'.length=σ.length->Agree vars σ σ'->σ'[j]?=some (some x)->Same H H'->H' acc=some (.lst L)->R i L H' ->
   (∀σ'' H'' L',σ''.length=σ.length->Agree vars σ σ''->Same H H''->H'' acc=some (.lst L')->R (i+1) L' H''->D.nx σ'' H'')->tb D σ' H')
  (q:∀σ' H' L,Same H H'->H' acc=some (.lst L)->R xs.length L H'->D.nx σ' H'):gL (Itl K a) (aJ j) tb D σ (upd H acc (.lst [])):=by
 refine bJ (K:=K) (a:=a) (xs:=xs) (g:=aJ j) (D:=D) (λi σ' H'=>i<=xs.length/\σ'.length=σ.length/\Agree vars σ σ'/\Same H H'/\∃L,H' acc=some (.lst L)/\R i L H') ⟨av _,rfl,Agree.refl _ _,aI ha _,[],aG,h0⟩ (λi σ1 H1 _ ⟨_,_,_,sm,L,_,r1⟩=>hs i L H1 sm r1) (λi x σ1 H1 hx ⟨_,hl1,ag1,sx1,L,h1,r1⟩=>?_) λσ1 H1 ⟨_,_,_,sm,L,h1,r1⟩=>q σ1 H1 L sm h1 r1
 have hi:i<xs.length:=(ai.mp hx).1
 exact h i x (σ1.set j (some x)) H1 L _ hx (by rw[df];exact hl1) (ag1.trans (Agree.set hj _)) (gK (by omega)) sx1 h1 r1 λσ2 H2 L' hl2 ag2 sm2 h2 r2=>⟨hi,hl2,ag2,sm2,L',h2,r2⟩
end
structure Mat (H:Hp)(F:Addr)(ls:List Addr)(M:List (List Int)):Prop where
 top:H F=some (.lst (ls.map V.ref))
 len:ls.length=M.length
 row:∀(i:Nat) (l:Addr) (r:List Int),ls[i]?=some l->M[i]?=some r->H l=some (.lst (r.map V.int))
 nd:ls.Nodup
 out:F∉ls
theorem Mat.same {H H':Hp}{F:Addr}{ls:List Addr}{M:List (List Int)}(m:Mat H F ls M)(e:Same H H'):Mat H' F ls M:=⟨e _ _ m.top,m.len,λi l r a b=>e _ _ (m.row i l r a b),m.nd,m.out⟩
theorem Mat.keep {H H':Hp}{F:Addr}{ls:List Addr}{M:List (List Int)}(m:Mat H F ls M)(e:∀b o,(b=F\/b∈ls)->H b=some o->H' b=some o):Mat H' F ls M:=
 ⟨e _ _ (.inl rfl) m.top,m.len,λi l r a b=>e _ _ (.inr (au a)) (m.row i l r a b),m.nd,m.out⟩
def xS (M:List (List Int)) (i j:Nat) (v:Int):List (List Int):=M.set i ((M.getD i []).set j v)
theorem kM {M:List (List Int)}{n i j:Nat}{v:Int}(q:Quad M n)(hi:i<n):Quad (xS M i j v) n:=by
 refine⟨by unfold xS;rw[df];exact q.len,λr hr=>?_⟩
 unfold xS at hr
 rcases List.mem_or_eq_of_mem_set hr with h | h
 ·exact q.row r h
 ·obtain⟨row,e1,e2,e3⟩:=q.get hi
  rw[h,df,e3];exact e2
theorem sO {M:List (List Int)}{n i j:Nat}{v:Int}(q:Quad M n)(hi:i<n)(hj:j<n)(a b:Nat):at2 (xS M i j v) a b=if a=i/\b=j then v else at2 M a b:=by
 obtain⟨row,e1,e2,e3⟩:=q.get hi
 unfold at2 xS
 by_cases ha:a=i
 ·subst ha
  have:(M.set a ((M.getD a []).set j v)).getD a []=(M.getD a []).set j v:=by
   rw[ak,jr (by rw[q.len];exact hi)];rfl
  rw[this,e3]
  by_cases hb:b=j
  ·subst hb
   rw[if_pos ⟨rfl,rfl⟩,ak,jr (by omega)];rfl
  ·rw[if_neg (λz=>hb z.2),ak,dv (iw hb),<- ak]
 ·have:(M.set i ((M.getD i []).set j v)).getD a []=M.getD a []:=by
   rw[ak,dv (iw ha),<- ak]
  rw[this,if_neg (λz=>ha z.1)]
theorem Mat.at {K:ae}{H:Hp}{F:Addr}{ls:List Addr}{M:List (List Int)}{n i:Nat}(m:Mat H F ls M)(q:Quad M n)(hi:i<n):∃l,ls[i]?=some l/\(ls.map V.ref)[i]?=some (.ref l)/\H l=some (.lst ((M.getD i []).map V.int)):=by
 obtain⟨row,e1,e2,e3⟩:=q.get hi
 have hl:i<ls.length:=by rw[m.len,q.len];exact hi
 refine⟨ls[i],ah hl,by rw[bh,ah hl];rfl,?_⟩
 rw[e3]
 exact m.row i _ row (ah hl) e1
theorem Mat.put {H:Hp}{F:Addr}{ls:List Addr}{M:List (List Int)}{n i j:Nat}{v:Int}{l:Addr}(m:Mat H F ls M)(q:Quad M n)(hi:i<n)(hl:ls[i]?=some l):Mat (upd H l (.lst (((M.getD i []).set j v).map V.int))) F ls (xS M i j v):=by
 have hm:l∈ls:=au hl
 have hF:F≠l:=λe=>m.out (e ▸ hm)
 refine⟨by rw[bC hF];exact m.top,by unfold xS;rw[df];exact m.len,λa b r h1 h2=>?_,m.nd,m.out⟩
 by_cases ha:a=i
 ·subst ha
  rw[hl] at h1
  cases h1
  rw[aG]
  unfold xS at h2
  rw[jr (by rw[q.len];exact hi)] at h2
  cases h2
  rfl
 ·have hne:b≠l:=by
   intro e
   subst e
   obtain⟨i1,z1⟩:=ai.mp h1
   obtain⟨i2,z2⟩:=ai.mp hl
   exact ha ((ou m.nd).mp (z1.trans z2.symm))
  rw[bC hne]
  unfold xS at h2
  rw[dv (iw ha)] at h2
  exact m.row a b r h1 h2
theorem aAl {K:ae}{H:Hp}{F:Addr}{ls:List Addr}{M:List (List Int)}{n i j t si sj:Nat}{σ:St}{Q:VK}(m:Mat H F ls M)(q:Quad M n)(ht:σ[t]?=some (some (.ref F)))(hi:σ[si]?=some (some (.int (i:Int))))(hj:σ[sj]?=some (some (.int (j:Int))))(li:i<n)(lj:j<n)
  (h:Q (.int (at2 M i j)) H):tOp (aZ K) (tOp (aZ K) (aD t) (aD si)) (aD sj) σ H Q:=by
 obtain⟨l,h1,h2,h3⟩:=m.at (K:=K) q li
 refine⟨_,ht,_,hi,ixL (.of m.top) h2 ⟨_,hj,ixL (.of h3) ?_ h⟩⟩
 obtain⟨row,e1,e2,e3⟩:=q.get li
 rw[bh,zJ (by rw[e3];omega)]
 rfl
theorem zK {K:ae}{H:Hp}{F:Addr}{ls:List Addr}{M:List (List Int)}{n i j t si sj:Nat}{σ:St}{v:Int}{N:St->Hp->Prop}(m:Mat H F ls M)(q:Quad M n)(ht:σ[t]?=some (some (.ref F)))(hi:σ[si]?=some (some (.int (i:Int))))(hj:σ[sj]?=some (some (.int (j:Int))))(li:i<n)(lj:j<n)
  (h:∀l H',l∈ls->H'=upd H l (.lst (((M.getD i []).set j v).map V.int))->Mat H' F ls (xS M i j v)->N σ H'):lJ (tOp (aZ K) (aD t) (aD si)) (aD sj) eO (.int v) σ H N:=by
 obtain⟨l,h1,h2,h3⟩:=m.at (K:=K) q li
 obtain⟨row,e1,e2,e3⟩:=q.get li
 refine⟨_,ht,_,hi,ixL (.of m.top) h2 ⟨_,hj,l,_,(j:Int),j,rfl,rfl,h3,?_,?_⟩⟩
 rotate_left
 ·rw[<- List.map_set]
  exact h l _ (au h1) rfl (m.put q li h1)
 rw[af,e3,e2]
 unfold ixN
 rw[if_pos (by omega),if_pos (by omega),bu]
theorem wY {K:ae}{σ:St}{H:Hp}{t n:Nat}{F:Addr}{ls:List Addr}{M:List (List Int)}{Q:VK}(ht:σ[t]?=some (some (.ref F)))(m:Mat H F ls M)(q:Quad M n)(hn:n<=100)(h:∀p H',Same H H'->Sh K H' (uZ M) (.ref p)->Q (.ref p) H') :
  tCB (pS K) (aC (cV [none] (fU K (aD t)) (aJ 0) [] λacc=>cP (tCB (pS K) (aC (aD 0) aQ)) acc) aQ) σ H Q:=by
 refine⟨_,ht,F,rfl, .inl ⟨⟨_, .of m.top⟩,λacc hacc=>?_⟩⟩
 have hlen:(ls.map V.ref).length=n:=by rw[af,m.len,q.len]
 refine aAz (vars:=[0]) (K:=K) (a:=F) (xs:=ls.map V.ref) (λi L H'=>L.length=i/\∀(j:Nat) (row:List Int),j<i->M[j]?=some row->∃b,L[j]?=some (.ref b)/\H' b=some (.tup (row.map V.int))) (by decide) (by show 0<1;decide) ⟨rfl,λj row hj=>absurd hj (l9 _)⟩ hacc (λi L H' sm _ => .of (sm _ _ m.top)) (λi x σ1 H1 L D hx l1 ag1 s1 sm1 ha1 ⟨r1,r2⟩ hD=>?_) λσ1 H1 L sm1 ha1 ⟨r1,r2⟩=>?_
 ·have hi:i<n:=by rw[<- hlen];exact(ai.mp hx).1
  have hil:i<ls.length:=by rw[m.len,q.len];exact hi
  obtain⟨row,e1,e2,e3⟩:=q.get hi
  have ex:x = .ref ls[i]:=by
   rw[bh,ah hil] at hx
   simpa using hx.symm
  subst ex
  have hrow:=m.row i _ row (ah hil) e1
  refine⟨_,s1,ls[i],row.map V.int,rfl, .inl ⟨.of (sm1 _ _ hrow),λp hp=>?_⟩⟩
  have hpa:p≠acc:=λe=>by rw[e,ha1] at hp;cases hp
  refine⟨L,by rw[bC (iw hpa)];exact ha1,bo (show L.length<=100 by omega) (by decide),?_⟩
  refine hD σ1 _ (L++[.ref p]) l1 ag1 (λb o e=>?_) aG ⟨by rw[bc,r1];rfl,λj row' hj e=>?_⟩
  ·have hb:b≠acc:=bK e hacc
   rw[bC hb,bC (bK (sm1 _ _ e) hp)]
   exact sm1 _ _ e
  ·by_cases hji:j<i
   ·obtain⟨b,g1,g2⟩:=r2 j row' hji e
    refine⟨b,by rw[c8 (by omega)];exact g1,?_⟩
    have hb:b≠acc:=ne_of g2 ha1 (λz=>nomatch z)
    rw[bC hb,bC (bK g2 hp)]
    exact g2
   ·have:j=i:=by omega
    subst this
    rw[e1] at e
    cases e
    refine⟨p,by rw[c5 (by omega),r1];simp,?_⟩
    rw[bC hpa]
    exact aG
 ·refine⟨acc,L,rfl, .inl ⟨.of ha1,λp hp=>?_⟩⟩
  have sm2:Same H (upd H1 p (.tup L)):=sm1.trans (aI hp _)
  refine h p _ sm2 ⟨p,L,rfl, .of aG,ShL.of_rows (by rw[r1,hlen,q.len]) λi row e=>?_⟩
  have hi:i<n:=by rw[<- q.len];exact(ai.mp e).1
  obtain⟨b,g1,g2⟩:=r2 i row (by omega) e
  exact⟨b,g1, .of (by rw[bC (bK g2 hp)];exact g2)⟩
section
variable {K:ae}{H:Hp}
theorem ShL.take:∀{ds:List Dt}{xs:List V} (n:Nat),ShL K H ds xs->ShL K H (ds.take n) (xs.take n)
 |_,_,0,_=>by rw[List.take_zero,List.take_zero];rfl
 |[],xs,n+1,h=>by rw[show xs=[] from h];rfl
 |d :: ds,_,n+1,⟨x,r,h1,h2,h3⟩=>⟨x,r.take n,by rw[h1];rfl,h2,ShL.take n h3⟩
end
theorem aEw (ns:List Int)(lo hi:Option Int):∃ms:List Int,vB (ns.map V.int) lo hi=ms.map V.int/\ms.length<=ns.length:=by
 refine⟨(ns.drop (HT.sIx ns.length 0 lo)).take (HT.sIx ns.length ns.length hi - HT.sIx ns.length 0 lo),?_,?_⟩
 ·unfold vB
  rw[af,nk,sr]
 ·rw[b9,jn];omega
end L2
namespace L2
open PySem PySem.Spec PyProof.Rows
section
variable {X:Cx}
theorem lQ {prog:Program}{w:World}{A:Around}{E:Value->Shared->Prop}{s:Shared}{t sl:Addr}{items:Array Value}{vl vu:Value}{lo hi:Option Int}{Q:Value->Shared->Prop}(ht:IsTup s.heap t items)(hs:s.heap.IsSliceOf sl vl vu .none)(pl:IsPart vl lo)(pu:IsPart vu hi)
  (hw:HT.sIx items.size 0 lo=0/\HT.sIx items.size items.size hi=items.size) (h:Q (.ref t) s):wpAny (model prog w) A (Aj (.ref t) (.ref sl)) Q E s:=by
 obtain⟨os,hos,hcs,hds⟩:=id hs
 have hTs:s.TypeIs (.ref sl) "slice":=⟨os,hos,hcs⟩
 unfold Aj
 try with_reducible refine fq ?_
 first | refine aa (ao ?_) | skip
 refine aa (wpAny_sequenceKey ht.typeIs (by decide) ?_)
 refine aa (dz (name:=jy "__getitem__") ht.typeIs gq
  (dt gq ht.typeIs zf ?_ (args_tuple_getitem _ _)))
 show wpAny _ _ (nv (.ref t) >>= _) _ _ s
 refine aa (tupleItemsOf_ ht ?_)
 refine aa (rh hTs ?_)
 rw[if_pos (by decide)]
 refine aa (HT.sliceApplied_gen hs pl pu ?_)
 rw[hw.1,hw.2]
 have hyes:((((0:Nat):Int) == 0 && (1:Int) == 1 && (items.size - 0) == items.size)=true):=by simp
 show wpAny _ _ (if(((0:Nat):Int) == 0 && (1:Int) == 1 && (items.size - 0) == items.size)=true then _ else _) _ _ s
 rw[if_pos hyes]
 unfold Builtin.Tuple.tupleIsExact
 refine aa (aa (rh ht.typeIs (ao ?_)))
 rw[if_pos (show(Value.type "tuple" == Value.type "tuple")=true by rfl)]
 exact aa (nh (ao ⟨_,rfl,ao h⟩))
def aKR (K:ae):V->Option Int->Option Int->Hp->VK->Prop:=λx lo hi H Q=>∃a xs,x = .ref a/\SqT K H a xs/\∀p H',Same H H'->SqT K H' p (vB xs lo hi)->Q (.ref p) H'
theorem aGe:SlR X (aKR X.K):=by
 intro pins s σ H x v vl vu lo hi sl Q I rx hs pl pu h
 obtain⟨a,xs,rfl,hx,q⟩:=h
 by_cases hw:HT.sIx xs.length 0 lo=0/\HT.sIx xs.length xs.length hi=xs.length
 ·obtain rfl:v=Value.ref a:=rx
  obtain⟨its,rv,p,hz⟩:=I.tuple hx
  have hl:=rv.length
  have ec:vB xs lo hi=xs:=by unfold vB;rw[hw.1,hw.2,List.drop_zero,Nat.sub_zero,dn]
  refine⟨"tuple",_,gq.lookup,p.typeIs,?_⟩
  refine lQ p hs pl pu (by simp only[ar,<- hl];exact hw) ?_
  exact⟨.ref a,H,I,rfl,q a H (Same.refl H) (by rw[ec];exact hx)⟩
 ·exact aHJ (X:=X) pins s σ H (.ref a) v vl vu lo hi sl Q I rx hs pl pu ⟨a,xs,rfl,hx,hw,λp hp=>q p _ (aI hp _) (.of aG)⟩
abbrev aCu (K:ae):V->Option Int->Option Int->Hp->VK->Prop:=λx lo hi H Q=>aLf K x lo hi H Q\/aKR K x lo hi H Q
theorem qJ {K:ae}(hK:X.K=K):SlR X (aCu K):=by subst hK;exact aGJ.or aGe
end
section
variable {prog:Program}{w:World}{A:Around}{E:Value->Shared->Prop}{s:Shared}
theorem aBe {l:Addr}{ob:Obj}{n:Nat}{T:String}{us:List Value}{Q:List Value->Shared->Prop}(e0:s.heap.get? l=some ob)(ec:ob.cls = .type T)(eT:T="list"\/T="tuple")(ed:ob.data = .seq us.toArray n)
  (q:Q us { s with heap:=(s.heap.push (jw "list" #[] 0)).update s.heap.objs.size (jz (· ++ us.toArray)) }) (z:us.length<=bx):wpAny (model prog w) A (AO (.ref l)) Q E s:=by
 unfold AO
 refine aa (qz (gw entry_proto_collect' ?g1))
 case g1=>
  show wpAny _ _ (do again (.builtin "list.__iadd__" ⟨[<- A2 [],Value.ref l],[]⟩)) _ _ s
  refine aa (qe (ao ⟨u4 _ (by decide+kernel),gw entry_list_iadd' ?g2⟩))
  case g2=>
   have e1:(s.heap.push (jw "list" #[] 0)).get? l=some ob:=aj _ e0
   show wpAny _ _ (kq (Value.ref s.heap.objs.size) (Value.ref l) (Value.ref s.heap.objs.size)) _ _ { s with heap:=s.heap.push (jw "list" #[] 0) }
   unfold kq
   refine aa (rh (T:=T) ⟨ob,e1,ec⟩ ?g3)
   case g3=>
    have ht:((Value.type T == Value.type "list") || (Value.type T == Value.type "tuple"))=true:=by rcases eT with rfl | rfl <;> rfl
    rw[if_pos (by first | exact ht | (rcases eT with rfl | rfl <;> simp))]
    refine aa (xr e1 ed (aa (xr (xs:=#[]) (n:=0) (ay _ rfl) rfl ?g4)))
    case g4=>
     rw[if_neg (by simp)]
     refine aa (su (xs:=#[]) (n:=0) (ay _ rfl) rfl ?g5 (av _) (by show(#[]++us.toArray).size<=bx+1;simp only[Array.size_append,ar,kn];omega))
     case g5=>
      refine ao ?g6
      case g6=>
       show wpAny (model prog w) A (load s.heap.objs.size >>= λo=>match o.data with | .seq xs _=>pure xs.toList | _=>unsupported "internal:collect") Q E { s with heap:=(s.heap.push (jw "list" #[] 0)).update s.heap.objs.size (jz (· ++ us.toArray)) }
       refine aa (Ah (xt (ay _ rfl) _) ?g7)
       case g7=>
        show wpAny _ _ (pure ((#[]:Array Value)++us.toArray).toList) Q E _
        rw[show((#[]:Array Value)++us.toArray).toList=us by simp]
        exact ao q
end
theorem mZ:∀{ns:List Int}{us:List Value},IntsAre us ns->Vals (ns.map V.int) us
 |[],_,h=>by cases h;exact .nil
 |n :: ns,_,h=>by
  cases h with
  |cons _ t h=>exact .cons ⟨t,rfl⟩ (mZ h)
theorem IntsAre.len:∀{ns:List Int}{us:List Value},IntsAre us ns->us.length=ns.length
 |[],_,h=>by cases h;rfl
 |n :: ns,_,h=>by
  cases h with
  |cons _ t h=>rw[cy,cy,IntsAre.len h]
mutual
def toP:Dt->PyData
 | .non => .none
 | .bl b => .bool b
 | .int i => .int i
 | .str x => .str x
 | .tup ds => .tuple (aBz ds)
 | .lst ds => .list (aBz ds)
def aBz:List Dt->List PyData
 |[]=>[]
 |d :: ds=>toP d :: aBz ds
end
mutual
theorem aGI:∀d,(toP d).depth=dep d
 | .non=>rfl
 | .bl b=>rfl
 | .int i=>rfl
 | .str x=>rfl
 | .tup ds=>by show(PyData.tuple (aBz ds)).depth=_;unfold PyData.depth dep;rw[tD]
 | .lst ds=>by show(PyData.list (aBz ds)).depth=_;unfold PyData.depth dep;rw[tD]
theorem tD:∀ds,xu (aBz ds)=lV ds
 |[]=>by unfold aBz lV xu;rfl
 |d :: ds=>by unfold aBz lV xu;rw[aGI,tD]
end
mutual
theorem aBd:∀d,(toP d).hasDict=false
 | .non=>by unfold toP og;rfl
 | .bl b=>by unfold toP og;rfl
 | .int i=>by unfold toP og;rfl
 | .str x=>by unfold toP og;rfl
 | .tup ds=>by unfold toP og;exact jM ds
 | .lst ds=>by unfold toP og;exact jM ds
theorem jM:∀ds,vv (aBz ds)=false
 |[]=>by unfold aBz vv;rfl
 |d :: ds=>by unfold aBz vv;rw[aBd,jM];rfl
end
section
variable {X:Cx}{pins:List (Addr×Obj)}{σ:St}{H:Hp}{s:Shared}
mutual
theorem Inv.reads (I:Inv X pins σ H s):∀{d:Dt}{x:V}{v:Value},RelV x v->Sh X.K H d x->∃as,Reads s.heap v (toP d) as
 | .non,x,v,r,h=>by obtain rfl:x = .non:=h;obtain rfl:v = .none:=r;exact⟨_, .none⟩
 | .bl b,x,v,r,h=>by obtain rfl:x = .bl b:=h;obtain rfl:v = .bool b:=r;exact⟨_, .bool b⟩
 | .int i,x,v,r,h=>by obtain rfl:x = .int i:=h;obtain⟨t,rfl⟩:=r;exact⟨_, .int i t⟩
 | .str y,x,v,r,h=>by obtain rfl:x = .str y:=h;obtain⟨t,rfl⟩:=r;exact⟨_, .str y t⟩
 | .tup ds,x,v,r,⟨a,xs,h1,h2,h3⟩=>by
  subst h1
  obtain rfl:v=Value.ref a:=r
  obtain⟨its,rv,⟨o,ho,hc,n,hd⟩,_⟩:=I.tuple h2
  obtain⟨as,ha⟩:=Inv.readsAll I rv h3
  exact⟨_, .tuple ho hc hd ha⟩
 | .lst ds,x,v,r,⟨a,xs,h1,h2,h3⟩=>by
  subst h1
  obtain rfl:v=Value.ref a:=r
  obtain⟨its,rv,pl,_⟩:=I.list h2
  obtain⟨o,ho,hc,n,hd⟩:=pl.isList
  obtain⟨as,ha⟩:=Inv.readsAll I rv h3
  exact⟨_, .list ho hc hd ha⟩
theorem Inv.readsAll (I:Inv X pins σ H s):∀{ds:List Dt}{xs:List V}{us:List Value},Vals xs us->ShL X.K H ds xs->∃as,ReadsAll s.heap us (aBz ds) as
 |[],xs,us,r,h=>by obtain rfl:xs=[]:=h;cases r;exact⟨_, .nil⟩
 |d :: ds,xs,us,r,⟨x,t,h1,h2,h3⟩=>by
  subst h1
  cases r with
  |cons r1 r2=>
   obtain⟨as,h4⟩:=Inv.reads I r1 h2
   obtain⟨bs,h5⟩:=Inv.readsAll I r2 h3
   exact⟨_, .cons h4 h5⟩
end
end
def okR (d:Dt):Prop:=(toP d).showable=true/\(toP d).leavesShort 1930=true/\(toP d).bulk<=4000/\dep d<=100
def ItAt (b:Bool) (h:Heap) (it l:Addr) (i:Nat):Prop:=∃o,h.get? it=some o/\o.cls = .type (if b then "list_iterator" else "tuple_iterator")/\o.data = .fields #[.ref l, .int i 0]
def ObAt (b:Bool) (h:Heap) (l:Addr) (us:Array Value):Prop:=∃o,h.get? l=some o/\o.cls = .type (if b then "list" else "tuple")/\∃n,o.data = .seq us n
theorem ItAt.keep {b:Bool}{h h':Heap}{it l:Addr}{i:Nat}(x:ItAt b h it l i)(e:∀o,h.get? it=some o->h'.get? it=some o):ItAt b h' it l i:=let⟨o,ho,r⟩:=x;⟨o,e _ ho,r⟩
theorem ObAt.keep {b:Bool}{h h':Heap}{l:Addr}{us:Array Value}(x:ObAt b h l us)(e:∀o,h.get? l=some o->h'.get? l=some o):ObAt b h' l us:=let⟨o,ho,r⟩:=x;⟨o,e _ ho,r⟩
theorem ItAt.lt {b:Bool}{h:Heap}{it l:Addr}{i:Nat}(x:ItAt b h it l i):it<h.objs.size:=let⟨_,ho,_⟩:=x;bj ho
section
variable {prog:Program}{w:World}{A:Around}{E:Value->Shared->Prop}{s:Shared}
theorem pO {it t:Addr}{i:Nat}{us:Array Value}{x:Value}{Q:Value->Shared->Prop}(hit:s.heap.IsTupleIter it t i)(ht:s.heap.IsTuple t us)(hx:us[i]?=some x)
  (q:∀h',h'.IsTupleIter it t (i+1)->fg it s.heap h'->Q x { s with heap:=h' }):wpAny (model prog w) A (fe (.ref it)) Q E s:=by
 obtain⟨ob,e1,e2,e3⟩:=id hit
 obtain⟨ol,f1,_,nl,f2⟩:=ht
 unfold fe;refine aa (dz (name:=jy "__next__") hit.typeIs ku (dt ku hit.typeIs t9 ?g (sv _)))
 case g=>
  show wpAny _ _ (field (.ref it) 0 >>= _) _ _ s;refine aa (gp e1 e3 (x := .ref t) rfl ?g)
  case g=>
   show wpAny _ _ (if(Value.ref t == Value.none)=true then _ else _) _ _ s;rw[if_neg (show ¬ ((Value.ref t == Value.none)=true) from bq)]
   show wpAny _ _ (field (.ref it) 1 >>= _) _ _ s;refine aa (gp e1 e3 (x := .int i 0) rfl ?g)
   case g=>
    show wpAny _ _ (seqItems? (.ref t) >>= _) _ _ s;refine aa (i5 f1 f2 ?g)
    case g=>
     simp only[bu,hx];refine aa (lg e1 e3 (by simp) (ao ⟨x,rfl,ao (q _ ?g (f7 ..))⟩))
     case g=>exact⟨_,jd _ e1 (ky (kz e3 _)),(vw ..).trans e2,by rw[kz e3];simp[jb]⟩
theorem qK {it t:Addr}{i:Nat}{us:Array Value}{Q:Value->Shared->Prop}(hh:A.handled=none)(hit:s.heap.IsTupleIter it t i)(ht:s.heap.IsTuple t us)(hx:us[i]?=none)
  (q:∀h' e,wm it s.heap h'->(∃o,h'.get? e=some o/\o.cls = .type "StopIteration")->E (.ref e) { s with heap:=h' }):wpAny (model prog w) A (fe (.ref it)) Q E s:=by
 obtain⟨ob,e1,e2,e3⟩:=id hit
 obtain⟨ol,f1,_,nl,f2⟩:=ht
 unfold fe;refine aa (dz (name:=jy "__next__") hit.typeIs ku (dt ku hit.typeIs t9 ?g (sv _)))
 case g=>
  show wpAny _ _ (field (.ref it) 0 >>= _) _ _ s;refine aa (gp e1 e3 (x := .ref t) rfl ?g)
  case g=>
   show wpAny _ _ (if(Value.ref t == Value.none)=true then _ else _) _ _ s;rw[if_neg (show ¬ ((Value.ref t == Value.none)=true) from bq)]
   show wpAny _ _ (field (.ref it) 1 >>= _) _ _ s;refine aa (gp e1 e3 (x := .int i 0) rfl ?g)
   case g=>
    show wpAny _ _ (seqItems? (.ref t) >>= _) _ _ s;refine aa (i5 f1 f2 ?g)
    case g=>
     simp only[bu,hx];refine aa (nh (aa (lg e1 e3 (by simp) ?g)))
     case g=>
      show wpAny _ _ (newExc (.type "StopIteration") [] >>= _) _ _ _;refine aa ?g
      case g=>
       simp only[newExc,newTuple];refine aa (fc ?g (by size_fits))
       case g=>
        refine aa (m:=oh _ _) (qp (a:=Value.none) (by first | rfl | (simp only[oh];rfl)) ?g)
        case g=>
         refine fc ?g (by size_fits)
         case g=>
          simp only[raiseNew];refine aa (zy ?g)
          case g=>
           first | rw[show A.in1.handled=none from hh] | rw[hh]
           exact aa (ao (AQ (q _ _ (((f7 ..).extBut.push _).push _) ⟨_,ay _ rfl,rfl⟩)))
theorem nU {b:Bool}{it l:Addr}{i:Nat}{us:Array Value}{x:Value}{Q:Value->Shared->Prop}(hit:ItAt b s.heap it l i)(ho:ObAt b s.heap l us)(hx:us[i]?=some x)
  (q:∀h',ItAt b h' it l (i+1)->fg it s.heap h'->Q x { s with heap:=h' }):wpAny (model prog w) A (fe (.ref it)) Q E s:=by
 cases b with
 |true=>exact wpAny_nextOf_list_item (l:=l) (i:=i) (items:=us) hit ho hx q
 |false=>exact pO (t:=l) (i:=i) (us:=us) hit ho hx q
theorem yP {b:Bool}{it l:Addr}{i:Nat}{us:Array Value}{Q:Value->Shared->Prop}(hh:A.handled=none)(hit:ItAt b s.heap it l i)(ho:ObAt b s.heap l us)(hx:us[i]?=none)
  (q:∀h' e,wm it s.heap h'->(∃o,h'.get? e=some o/\o.cls = .type "StopIteration")->E (.ref e) { s with heap:=h' }):wpAny (model prog w) A (fe (.ref it)) Q E s:=by
 cases b with
 |true=>exact wpAny_nextOf_list_end (l:=l) (i:=i) (items:=us) hh hit ho hx q
 |false=>exact qK (t:=l) (i:=i) (us:=us) hh hit ho hx q
abbrev itO (b:Bool) (l:Addr):Obj:={ cls := .type (if b then "list_iterator" else "tuple_iterator"),data := .fields #[.ref l, .int 0 0] }
theorem oA {b:Bool}{l:Addr}{us:Array Value}{Q:Value->Shared->Prop}(ho:ObAt b s.heap l us)(q:Q (.ref s.heap.objs.size) { s with heap:=s.heap.push (itO b l) }):wpAny (model prog w) A (zv (.ref l)) Q E s:=by
 cases b with
 |true=>exact qq (show s.heap.IsList l us from ho) q
 |false=>exact qd (show s.heap.IsTuple l us from ho) q
structure ZA (z ti to i1 i2:Addr):Prop where
 a1:ti≠z
 a2:to≠z
 a3:i1≠z
 a4:i2≠z
 a5:ti≠to
 a6:ti≠i1
 a7:ti≠i2
 a8:to≠i1
 a9:to≠i2
 a10:i1≠i2
def ZP (z to i1 i2 c:Addr):Prop:=c≠z/\c≠to/\c≠i1/\c≠i2
theorem aEL {b1 b2:Bool}{z ti to i1 i2 l1 l2:Addr}{k1 k2:Nat}{xs ys:Array Value}{x y u v:Value}{Q:Value->Shared->Prop}(D:ZA z ti to i1 i2)(D1:ZP z to i1 i2 l1)(D2:ZP z to i1 i2 l2)(hz:IsZip s.heap z ti to .none)(hti:vx s.heap ti (.ref i1) (.ref i2))(hto:vx s.heap to u v)
  (h1:ItAt b1 s.heap i1 l1 k1) (h2:ItAt b2 s.heap i2 l2 k2) (o1:ObAt b1 s.heap l1 xs) (o2:ObAt b2 s.heap l2 ys) (hx:xs[k1]?=some x) (hy:ys[k2]?=some y)
  (q:∀h',IsZip h' z ti to (jb s.heap.objs.size)->vx h' to x y->ItAt b1 h' i1 l1 (k1+1)->ItAt b2 h' i2 l2 (k2+1)->vx h' s.heap.objs.size x y->h'.objs.size=s.heap.objs.size+1->(∀c o,ZP z to i1 i2 c->s.heap.get? c=some o->h'.get? c=some o)->Q (.ref s.heap.objs.size) { s with heap:=h' }) :
  wpAny (model prog w) A (Builtin.«zip.__next__» ⟨[.ref z],[]⟩) (λfin s'=>∃r,fin = .done (.ret r)/\Q r s') E s:=by
 show wpAny _ _ (field (.ref z) 2 >>= _) _ _ _;refine aa (gp hz rfl (x := .bool false) rfl ?g)
 case g=>
 show wpAny _ _ (field (.ref z) 3 >>= _) _ _ _;refine aa (gp hz rfl (x := .ref ti) rfl (aa (i5 hti rfl ?g)))
 case g=>
 show wpAny _ _ (f9 (.ref z) >>= _) _ _ _;unfold f9;refine aa (aa (gp hz rfl (x := .none) rfl (ao ?g)))
 case g=>
 simp only[if_true];refine aa (nh (aa (gp hz rfl (x := .ref to) rfl (aa (gr hz (by simp) λH1 z1 s1=>?g)))))
 case g=>
 replace z1:IsZip H1 z ti to .ellipsis:=z1
 refine aa ?g
 case g=>
 simp only[List.zipIdx_cons,List.zipIdx_nil,i4,kg];refine aa (aa (wo ?g))
 case g=>
 show wpAny _ _ (fe (.ref i1) >>= _) _ _ _;refine aa (nU (b:=b1) (h1.keep λo e=>s1.extBut _ _ D.a3 e) (o1.keep λo e=>s1.extBut _ _ D1.1 e) hx λH2 t1 s2=>ao ?g)
 case g=>
 have p2:vx H2 to u v:=s2.extBut _ _ D.a8 (s1.extBut _ _ D.a2 hto)
 refine aa (i5 p2 rfl (aa (rq p2 λH3 p3 s3=>?g)))
 case g=>
 replace p3:vx H3 to x v:=p3
 refine aa (zh (ao (aa (aa (wo ?g)))))
 case g=>
 show wpAny _ _ (fe (.ref i2) >>= _) _ _ _
 refine aa (nU (b:=b2) (h2.keep λo e=>s3.extBut _ _ D.a9.symm (s2.extBut _ _ D.a10.symm (s1.extBut _ _ D.a4 e))) (o2.keep λo e=>s3.extBut _ _ D2.2.1 (s2.extBut _ _ D2.2.2.1 (s1.extBut _ _ D2.1 e))) hy λH4 t2 s4=>ao ?g)
 case g=>
 have p4:vx H4 to x v:=s4.extBut _ _ D.a9 p3
 refine aa (i5 p4 rfl (aa (rq p4 λH5 p5 s5=>?g)))
 case g=>
 replace p5:vx H5 to x y:=p5
 refine aa (zh (ao (ao (aa (i5 p5 rfl (aa (vf ?g)))))))
 case g=>
 have sz:H5.objs.size=s.heap.objs.size:=by rw[s5.1,s4.1,s3.1,s2.1,s1.1]
 have z5:IsZip H5 z ti to .ellipsis:=s5.extBut _ _ D.a2.symm (s4.extBut _ _ D.a4.symm (s3.extBut _ _ D.a2.symm (s2.extBut _ _ D.a3.symm z1)))
 have k5:∀c o,ZP z to i1 i2 c->s.heap.get? c=some o->H5.get? c=some o:=λc o n e=>s5.extBut _ _ n.2.1 (s4.extBut _ _ n.2.2.2 (s3.extBut _ _ n.2.1 (s2.extBut _ _ n.2.2.1 (s1.extBut _ _ n.1 e))))
 have t15:ItAt b1 H5 i1 l1 (k1+1):=t1.keep λo e=>s5.extBut _ _ D.a8.symm (s4.extBut _ _ D.a10 (s3.extBut _ _ D.a8.symm e))
 have t25:ItAt b2 H5 i2 l2 (k2+1):=t2.keep λo e=>s5.extBut _ _ D.a9.symm e
 have lz:z<H5.objs.size:=bj z5
 show wpAny _ _ (i6 (.ref z) (.ref H5.objs.size) >>= _) _ _ _;unfold i6
 have z6:IsZip (H5.push { cls := .type "tuple",data := .seq #[x,y] }) z ti to .ellipsis:=aj _ z5
 refine aa (aa (gr z6 (by simp) λH7 z7 s7=>?g))
 case g=>
 replace z7:IsZip H7 z ti to (jb H5.objs.size):=z7
 refine gr z7 (by simp) λH8 z8 s8=>?g
 case g=>
 replace z8:IsZip H8 z ti to (jb H5.objs.size):=z8
 have up:∀c o,c≠z->H5.get? c=some o->H8.get? c=some o:=λc o n e=>s8.extBut _ _ n (s7.extBut _ _ n (aj _ e))
 have p8:vx H8 H5.objs.size x y:=s8.extBut _ _ (ja lz) (s7.extBut _ _ (ja lz) (ay _ rfl))
 have n8:H8.objs.size=H5.objs.size+1:=by rw[s8.1,s7.1,e8]
 rw[sz] at z8 p8 n8
 refine ao ⟨_,rfl,(?g:Q (.ref H5.objs.size) _)⟩
 case g=>
 rw[sz]
 exact q H8 z8 (up _ _ D.a2 p5) (t15.keep λo e=>up _ o D.a3 e) (t25.keep λo e=>up _ o D.a4 e) p8 n8 λc o n e=>up c o n.1 (k5 c o n e)
theorem aFT {b1 b2:Bool}{z ti to i1 i2 l1 l2:Addr}{k1 k2:Nat}{xs ys:Array Value}{u v:Value}{Q:Fin->Shared->Prop}(hh:A.handled=none)(D:ZA z ti to i1 i2)(D1:ZP z to i1 i2 l1)(D2:ZP z to i1 i2 l2)(hz:IsZip s.heap z ti to .none)(hti:vx s.heap ti (.ref i1) (.ref i2))(hto:vx s.heap to u v)
  (h1:ItAt b1 s.heap i1 l1 k1) (h2:ItAt b2 s.heap i2 l2 k2) (o1:ObAt b1 s.heap l1 xs) (o2:ObAt b2 s.heap l2 ys) (hend:xs[k1]?=none\/ys[k2]?=none)
  (q:∀h' e,(∀c o,ZP z to i1 i2 c->s.heap.get? c=some o->h'.get? c=some o)->(∃o,h'.get? e=some o/\o.cls = .type "StopIteration")->E (.ref e) { s with heap:=h' }) :
  wpAny (model prog w) A (Builtin.«zip.__next__» ⟨[.ref z],[]⟩) Q E s:=by
 show wpAny _ _ (field (.ref z) 2 >>= _) _ _ _;refine aa (gp hz rfl (x := .bool false) rfl ?g)
 case g=>
 show wpAny _ _ (field (.ref z) 3 >>= _) _ _ _;refine aa (gp hz rfl (x := .ref ti) rfl (aa (i5 hti rfl ?g)))
 case g=>
 show wpAny _ _ (f9 (.ref z) >>= _) _ _ _;unfold f9;refine aa (aa (gp hz rfl (x := .none) rfl (ao ?g)))
 case g=>
 simp only[if_true];refine aa (nh (aa (gp hz rfl (x := .ref to) rfl (aa (gr hz (by simp) λH1 z1 s1=>?g)))))
 case g=>
 replace z1:IsZip H1 z ti to .ellipsis:=z1
 refine aa ?g
 case g=>
 simp only[List.zipIdx_cons,List.zipIdx_nil,i4,kg];refine aa (aa (wo ?g))
 case g=>
 show wpAny _ _ (fe (.ref i1) >>= _) _ _ _
 cases hx:xs[k1]? with
 |none=>
  refine aa (yP (b:=b1) hh (h1.keep λo e=>s1.extBut _ _ D.a3 e) (o1.keep λo e=>s1.extBut _ _ D1.1 e) hx λH2 e s2 ⟨oe,e1,e2⟩=>?g)
  case g=>
  have z2:IsZip H2 z ti to .ellipsis:=s2 _ _ D.a3.symm z1
  have ne:e≠z:=λx=>by subst x;rw[z2] at e1;cases e1;simp at e2
  exact gr z2 (by simp) λH3 _ s3=>q H3 e (λc o n x=>s3.extBut _ _ n.1 (s2 _ _ n.2.2.1 (s1.extBut _ _ n.1 x))) ⟨oe,s3.extBut _ _ ne e1,e2⟩
 |some x=>
  have hy:ys[k2]?=none:=hend.resolve_left (by rw[hx];exact λh=>by cases h)
  refine aa (nU (b:=b1) (h1.keep λo e=>s1.extBut _ _ D.a3 e) (o1.keep λo e=>s1.extBut _ _ D1.1 e) hx λH2 t1 s2=>ao ?g)
  case g=>
  have p2:vx H2 to u v:=s2.extBut _ _ D.a8 (s1.extBut _ _ D.a2 hto)
  refine aa (i5 p2 rfl (aa (rq p2 λH3 p3 s3=>?g)))
  case g=>
  refine aa (zh (ao (aa (aa (wo ?g)))))
  case g=>
  show wpAny _ _ (fe (.ref i2) >>= _) _ _ _
  refine aa (yP (b:=b2) hh (h2.keep λo e=>s3.extBut _ _ D.a9.symm (s2.extBut _ _ D.a10.symm (s1.extBut _ _ D.a4 e))) (o2.keep λo e=>s3.extBut _ _ D2.2.1 (s2.extBut _ _ D2.2.2.1 (s1.extBut _ _ D2.1 e))) hy λH4 e s4 ⟨oe,e1,e2⟩=>?g)
  case g=>
  have z4:IsZip H4 z ti to .ellipsis:=s4 _ _ D.a4.symm (s3.extBut _ _ D.a2.symm (s2.extBut _ _ D.a3.symm z1))
  have ne:e≠z:=λx=>by subst x;rw[z4] at e1;cases e1;simp at e2
  exact gr z4 (by simp) λH5 _ s5=>q H5 e (λc o n x=>s5.extBut _ _ n.1 (s4 _ _ n.2.2.2 (s3.extBut _ _ n.2.1 (s2.extBut _ _ n.2.2.1 (s1.extBut _ _ n.1 x))))) ⟨oe,s5.extBut _ _ ne e1,e2⟩
end
section
variable {X:Cx}{pins:List (Addr×Obj)}{σ:St}{H:Hp}{s:Shared}{h':Heap}
theorem Inv.turnedL {t':Nat}{ch:List Addr}(I:Inv X pins σ H s)(hf:∀b∈ch,FpOk X pins H b)(k:∀b o,b∉ch->s.heap.get? b=some o->h'.get? b=some o):Inv X pins σ H { s with heap:=h',toks:=t' }:=by
 have nit:∀b u,H b=some u->b∉ch:=λb u e z=>by rw[(hf b z).1] at e;cases e
 refine I.step (g':=s.gens) (d':=s.drawn) (ch:=ch) (λb hb=>?_) (λb o _ _ hc e _=>k b o hc e) (λb o _ _ hc e _=>⟨o.slots,k b o hc e⟩) (λ_ _ _ _ n=>n) (λb o hc e=>⟨o,k b o hc e⟩) (λ_ _ e=>e) (λ_ _ _ e=>e) (λb ps e=>⟨#[],by rw[e];simp⟩) (λm hm=>?_) (λb u e=>?_) I.bare
 ·obtain⟨_,f1,_,f3,f4,f5⟩:=hf b hb
  exact⟨f3,f1,f4,f5⟩
 ·obtain⟨o,es,ep,ho,r⟩:=hm
  exact⟨o,es,ep,k _ o (λz=>(hf _ z).2.1 rfl) ho,r⟩
 ·refine(I.hok b u e).stay (λc v hc q=>k c v ?_ q) (λ_ q=>q) λ_ _ q=>q
  rcases hc with z | z
  ·rw[z];exact nit b u e
  ·exact nit c _ z
end
def SqB (b:Bool) (K:ae) (H:Hp) (l:Addr) (xs:List V):Prop:=match b with | true=>SqL K H l xs | false=>SqT K H l xs
section
variable {X:Cx}{pins:List (Addr×Obj)}{σ:St}{H:Hp}{s:Shared}
theorem Inv.obAt {b:Bool}{l:Addr}{xs:List V}(I:Inv X pins σ H s)(h:SqB b X.K H l xs):∃its:List Value,Vals xs its/\ObAt b s.heap l its.toArray/\xs.length<=bx:=by
 cases b with
 |true=>
  obtain⟨its,rv,pl,hz⟩:=I.list h
  obtain⟨o,ho,hc,n,hd⟩:=pl.isList
  exact⟨its,rv,⟨o,ho,hc,n,hd⟩,hz⟩
 |false=>
  obtain⟨its,rv,⟨o,ho,hc,n,hd⟩,hz⟩:=I.tuple h
  exact⟨its,rv,⟨o,ho,hc,n,hd⟩,hz⟩
theorem Inv.sqB_inj {b:Bool}{l:Addr}{xs ys:List V}(I:Inv X pins σ H s)(h:SqB b X.K H l xs)(h':SqB b X.K H l ys):xs=ys:=by
 cases b with
 |true=>exact I.list_inj h h'
 |false=>exact I.tuple_inj h h'
end
def Itz (K : ae) (b1 b2 : Bool) (l1 l2 : Addr) : It :=
  ⟨λi H => ∃xs ys x y, SqB b1 K H l1 xs /\ SqB b2 K H l2 ys /\ xs[i]? = some x /\ ys[i]? = some y,
   λi H v H' => ∃p x y, v = .ref p /\ H p = none /\ H' = upd H p (.tup [x, y]) /\ (∀xs, SqB b1 K H l1 xs -> xs[i]? = some x) /\ ∀ys, SqB b2 K H l2 ys -> ys[i]? = some y,
   λi H => ∃xs ys, SqB b1 K H l1 xs /\ SqB b2 K H l2 ys /\ (xs.length <= i \/ ys.length <= i)⟩
def zTn (b1 b2:Bool) (z ti to i1 i2 l1 l2:Addr) (i:Nat) (h:Heap):Prop:=IsZip h z ti to .none/\vx h ti (.ref i1) (.ref i2)/\(∃u v,vx h to u v)/\ItAt b1 h i1 l1 i/\ItAt b2 h i2 l2 i
theorem aDR {P:Program}{w:World}{K:ae}{es:List Expr}{k:Nat}{pos:Pos}{b1 b2:Bool}{z ti to i1 i2 l1 l2:Addr}(D:ZA z ti to i1 i2)(D1:ZP z to i1 i2 l1)(D2:ZP z to i1 i2 l2) :
  aEW P w K (.Tuple es k pos) (Itz K b1 b2 l1 l2) [z,ti,to,i1,i2] z (zTn b1 b2 z ti to i1 i2 l1 l2) where
 mem:=by simp
 obj:=λi h ⟨h1,h2,⟨u,v,h3⟩,⟨o4,h4,_,d4⟩,⟨o5,h5,_,d5⟩⟩ b hb=>by
  simp only[cm,ip,or_false] at hb
  rcases hb with rfl | rfl | rfl | rfl | rfl
  ·exact⟨_,h1,λv q=>by cases q⟩
  ·exact⟨_,h2,λv q=>by cases q⟩
  ·exact⟨_,h3,λv q=>by cases q⟩
  ·exact⟨_,h4,λv q=>by rw[d4] at q;cases q⟩
  ·exact⟨_,h5,λv q=>by rw[d5] at q;cases q⟩
 keep:=λi h h' ⟨h1,h2,⟨u,v,h3⟩,h4,h5⟩ kp=>⟨kp z (by simp) _ h1,kp ti (by simp) _ h2,⟨u,v,kp to (by simp) _ h3⟩,h4.keep λo e=>kp i1 (by simp) o e,h5.keep λo e=>kp i2 (by simp) o e⟩
 item:=by
  intro X hP hw hK hc i pins s σ H E I hf st hg
  subst hP hw hK
  obtain⟨h1,h2,⟨u0,v0,h3⟩,h4,h5⟩:=st
  obtain⟨xs,ys,x,y,q1,q2,hx,hy⟩:=hg
  obtain⟨us,r1,o1,z1⟩:=I.obAt q1
  obtain⟨vs,r2,o2,z2⟩:=I.obAt q2
  obtain⟨ux,hux,rx⟩:=r1.get hx
  obtain⟨uy,huy,ry⟩:=r2.get hy
  have hT:s.TypeIs (.ref z) "zip":=⟨_,h1,rfl⟩
  unfold qh
  refine aa (mi (dz (name:=jy "__next__") hT ua (dt ua hT F.entry_zip_next (aEL D D1 D2 h1 h2 h3 h4 h5 o1 o2 (by simpa using hux) (by simpa using huy) λh' g1 g2 g3 g4 g5 g6 kp=>ao ⟨_,rfl,?g⟩) (F.args_zip_next_1 _))))
  case g=>
  refine wpAny_letOwnedTupleGo_zip (s:={ s with heap:=h' }) g1 λh2' g1' sb=>?g
  case g=>
  have lt:∀b∈[z,ti,to,i1,i2],b<s.heap.objs.size:=λb hb=>by
   simp only[cm,ip,or_false] at hb
   rcases hb with rfl | rfl | rfl | rfl | rfl
   ·exact bj h1
   ·exact bj h2
   ·exact bj h3
   ·exact h4.lt
   ·exact h5.lt
  have kb:∀c o,c∉[z,ti,to,i1,i2]->s.heap.get? c=some o->h'.get? c=some o:=λc o n e=>kp c o ⟨λq=>n (by simp[q]),λq=>n (by simp[q]),λq=>n (by simp[q]),λq=>n (by simp[q])⟩ e
  have hn:H s.heap.objs.size=none:=I.hok.fresh (ba _)
  have I1:Inv X pins σ (upd H s.heap.objs.size (.tup [x,y])) { s with heap:=s.heap.push { cls := .type "tuple",data := .seq #[ux,uy] } }:=
   I.laid (t':=s.toks) (λb o e=>aj _ e) (ba _) (show ObjOk X.prog X.w _ _ _ (.tup [x,y]) from⟨show 2<=bx by decide,[ux,uy], .cons rx (.cons ry .nil),TupN.new _ _⟩)
  have hf1:∀b∈[z,ti,to,i1,i2],FpOk X pins (upd H s.heap.objs.size (.tup [x,y])) b:=λb hb=>by
   obtain⟨f0,f⟩:=hf b hb
   exact⟨by rw[bC (c6 (lt b hb))];exact f0,f⟩
  have I2:Inv X pins σ (upd H s.heap.objs.size (.tup [x,y])) { s with heap:=h' }:=I1.turnedL (t':=s.toks) hf1 λb o nb e=>by
   rcases yv e with⟨eb,eo⟩ | e
   ·subst eb;subst eo
    exact g5
   ·exact kb b o nb e
  have I3:Inv X pins σ (upd H s.heap.objs.size (.tup [x,y])) { s with heap:=h2' }:=I2.turnedL (t':=s.toks) hf1 λb o nb e=>sb.extBut _ _ (λq=>nb (by simp[q])) e
  exact⟨.ref s.heap.objs.size,_,I3,rfl,⟨_,x,y,rfl,hn,rfl,λxs' e=>by rw[I.sqB_inj e q1];exact hx,λys' e=>by rw[I.sqB_inj e q2];exact hy⟩,
   ⟨g1',sb.extBut _ _ D.a1 (kp _ _ ⟨D.a1,D.a5,D.a6,D.a7⟩ h2),⟨_,_,sb.extBut _ _ D.a2 g2⟩,g3.keep λo e=>sb.extBut _ _ D.a3 e,g4.keep λo e=>sb.extBut _ _ D.a4 e⟩,λb hb=>(hf1 b hb).1⟩
 done:=by
  intro X hP hw hK hc i pins s σ H E I hf st hg
  subst hP hw hK
  obtain⟨h1,h2,⟨u0,v0,h3⟩,h4,h5⟩:=st
  obtain⟨xs,ys,q1,q2,hl⟩:=hg
  obtain⟨us,r1,o1,z1⟩:=I.obAt q1
  obtain⟨vs,r2,o2,z2⟩:=I.obAt q2
  have l1':=r1.length
  have l2':=r2.length
  have hT:s.TypeIs (.ref z) "zip":=⟨_,h1,rfl⟩
  unfold qh
  refine aa (mi (dz (name:=jy "__next__") hT ua (dt ua hT F.entry_zip_next (aFT (I.ok.hd hc) D D1 D2 h1 h2 h3 h4 h5 o1 o2 (hl.elim (λh => .inl (by simp;omega)) λh => .inr (by simp;omega)) λh' e kp ⟨o,e1,e2⟩=>?g) (F.args_zip_next_1 _))))
  case g=>
  refine aa (j6 (T:="StopIteration") (b:=true) ⟨o,e1,e2⟩ vg (ao ⟨rfl,?g⟩))
  case g=>
  exact I.turnedL (t':=s.toks) hf λc o n e=>kp c o ⟨λq=>n (by simp[q]),λq=>n (by simp[q]),λq=>n (by simp[q]),λq=>n (by simp[q])⟩ e
 self:=λ_ _ _ _ _ st q=>wpAny_pyIter_zip st.1 q
abbrev zH1 (h:Heap) (b1:Bool) (l1:Addr):Heap:=h.push (itO b1 l1)
abbrev zH2 (h:Heap) (b1 b2:Bool) (l1 l2:Addr):Heap:=(zH1 h b1 l1).push (itO b2 l2)
abbrev zH3 (h:Heap) (b1 b2:Bool) (l1 l2:Addr):Heap:=(zH2 h b1 b2 l1 l2).push { cls := .type "tuple",data := .seq #[.ref h.objs.size, .ref (zH1 h b1 l1).objs.size] }
abbrev zH4 (h:Heap) (b1 b2:Bool) (l1 l2:Addr):Heap:=(zH3 h b1 b2 l1 l2).push { cls := .type "tuple",data := .seq #[.none, .none] }
abbrev zH5 (h:Heap) (b1 b2:Bool) (l1 l2:Addr):Heap:=(zH4 h b1 b2 l1 l2).push { cls := .type "zip",data := .fields #[.none, .bool false, .bool false, .ref (zH2 h b1 b2 l1 l2).objs.size, .ref (zH3 h b1 b2 l1 l2).objs.size] }
theorem ObAt.push {b:Bool}{h:Heap}{l:Addr}{us:Array Value}(x:ObAt b h l us)(o:Obj):ObAt b (h.push o) l us:=x.keep λ_ e=>aj _ e
theorem aGd (b1 b2:Bool)(l1 l2:Addr)(xs ys:Array Value) :
  Meets (Builtin.«zip.__new__» ⟨[.type "zip", .ref l1, .ref l2],[]⟩) (λ_ R s=>ObAt b1 s.heap l1 xs/\ObAt b2 s.heap l2 ys/\R (.ok (.ret (.ref (zH4 s.heap b1 b2 l1 l2).objs.size))) { s with heap:=zH5 s.heap b1 b2 l1 l2 }):=
 .of_wp λprog w A R s h=>by
  obtain⟨hp,g,d,tk,os⟩:=s;obtain⟨m1,m2,q⟩:=h
  have hsub:=sub_zip;have n1:ObAt b1 (AR ⟨hp,g,d,tk,os⟩) l1 xs:=m1
  have n2:ObAt b2 (AR ⟨hp.push (itO b1 l1),g,d,tk,os⟩) l2 ys:=ObAt.push m2 _
  wp_walk using oA n1,oA n2
  exact⟨_,rfl,q⟩
theorem aEC {prog:Program}{w:World}{A:Around}{E:Value->Shared->Prop}{s:Shared}{b1 b2:Bool}{l1 l2:Addr}{xs ys:Array Value}{Q:Value->Shared->Prop}(o1:ObAt b1 s.heap l1 xs)(o2:ObAt b2 s.heap l2 ys)
  (q:∀h',zTn b1 b2 (s.heap.objs.size+4) (s.heap.objs.size+2) (s.heap.objs.size+3) s.heap.objs.size (s.heap.objs.size+1) l1 l2 0 h'->(∀c o,s.heap.get? c=some o->h'.get? c=some o)->Q (.ref (s.heap.objs.size+4)) { s with heap:=h' }) :
  wpAny (model prog w) A (call (.type "zip") [.ref l1, .ref l2]) Q E s:=by
 refine callType_new F.called_zip (by decide) (F.typeCall_zip_2 _ _) (F.newCall_zip_2 _ _) (λob=>F.args_object_init_3 ob _ _) F.entry_zip_new (aGd b1 b2 l1 l2 xs ys) ⟨o1,o2,?g⟩
 case g=>
 have z1:(zH1 s.heap b1 l1).objs.size=s.heap.objs.size+1:=e8 ..
 have z2:(zH2 s.heap b1 b2 l1 l2).objs.size=s.heap.objs.size+2:=by rw[e8,z1]
 have z3:(zH3 s.heap b1 b2 l1 l2).objs.size=s.heap.objs.size+3:=by rw[e8,z2]
 have z4:(zH4 s.heap b1 b2 l1 l2).objs.size=s.heap.objs.size+4:=by rw[e8,z3]
 have g5:(zH5 s.heap b1 b2 l1 l2).get? (zH4 s.heap b1 b2 l1 l2).objs.size=some _:=ay _ rfl
 have g4:(zH5 s.heap b1 b2 l1 l2).get? (zH3 s.heap b1 b2 l1 l2).objs.size=some _:=aj _ (ay _ rfl)
 have g3:(zH5 s.heap b1 b2 l1 l2).get? (zH2 s.heap b1 b2 l1 l2).objs.size=some _:=aj _ (aj _ (ay _ rfl))
 have g2:(zH5 s.heap b1 b2 l1 l2).get? (zH1 s.heap b1 l1).objs.size=some _:=aj _ (aj _ (aj _ (ay _ rfl)))
 have g1:(zH5 s.heap b1 b2 l1 l2).get? s.heap.objs.size=some _:=aj _ (aj _ (aj _ (aj _ (ay _ rfl))))
 rw[z2,z3,z4] at g5;rw[z1,z2] at g3;rw[z3] at g4;rw[z1] at g2
 show _/\_
 rw[z4]
 exact⟨⟨_,g5,rfl⟩,q _ ⟨g5,g3,⟨_,_,g4⟩,⟨_,g1,rfl,rfl⟩,⟨_,g2,rfl,rfl⟩⟩ λc o x=>aj _ (aj _ (aj _ (aj _ (aj _ x))))⟩
def aHh (K:ae) (ta:TA):TI:=λσ H R=>ta σ H λvs H1=>∃l1 l2 b1 b2,vs=[.ref l1, .ref l2]/\(∃xs,SqB b1 K H1 l1 xs)/\(∃ys,SqB b2 K H1 l2 ys)/\R (Itz K b1 b2 l1 l2) H1
theorem aHC (n:Nat):ZA (n+4) (n+2) (n+3) n (n+1):=by
 constructor <;> (intro h;replace h:(_:Nat)=_:=h;omega)
theorem aER {n l:Nat}(h:l<n):ZP (n+4) (n+3) n (n+1) l:=
 ⟨c6 (aw h (i9 _ _)),c6 (aw h (i9 _ _)),c6 h,c6 (aw h (i9 _ _))⟩
theorem aHU:e9 "zip" = some (.type "zip"):=by decide+kernel
theorem aHR {X:Cx}{es:List Expr}{k:Nat}{po:Pos}{a b:Expr}{ta:TA}{p pos:Pos}(hg:Gl X "zip")(hm:X.mg "zip" = none)(ha:PA X [a,b] ta)(hs:fi [a,b] X.env=[(false,eval a X.env),(false,eval b X.env)]:=by rfl)(hs2:fi [b] X.env=[(false,eval b X.env)]:=by rfl) :
  PI X (.Tuple es k po) (.Call (.Name "zip" p) [a,b] [] pos) (aHh X.K ta):=by
 intro pins s σ H R I h
 refine Call_ (oH I hg hm aHU (jg (thn (ha pos pins s σ H _ I h) λus s1 ⟨vs,H1,I1,r1,q1⟩=>?g) (by rw[hs,hs2]) (by rw[hs2];rfl)))
 case g=>
 obtain⟨l1,l2,b1,b2,e,⟨xs,q2⟩,⟨ys,q3⟩,q⟩:=q1
 subst e
 obtain⟨u1,u2,rfl,e1,e2⟩:=aIf r1
 obtain rfl:u1=Value.ref l1:=e1
 obtain rfl:u2=Value.ref l2:=e2
 obtain⟨x1,v1,o1,_⟩:=I1.obAt q2
 obtain⟨x2,v2,o2,_⟩:=I1.obAt q3
 have a1:l1<s1.heap.objs.size:=let⟨_,e,_⟩:=o1;bj e
 have a2:l2<s1.heap.objs.size:=let⟨_,e,_⟩:=o2;bj e
 refine aEC o1 o2 λh' zt kp=>wpAny_pyIter_zip (s:={ s1 with heap:=h' }) zt.1 ?g
 case g=>
 refine⟨_,[s1.heap.objs.size+4,s1.heap.objs.size+2,s1.heap.objs.size+3,s1.heap.objs.size,s1.heap.objs.size+1],_,_,H1,rfl,I1.kept (t':=s1.toks) kp,aDR (aHC _) (aER a1) (aER a2),zt,λb hb=>?g,q⟩
 case g=>
 have lb:s1.heap.objs.size<=b:=by
  simp only[cm,ip,or_false] at hb
  rcases hb with rfl | rfl | rfl | rfl | rfl <;> first | exact i9 _ _ | exact ba _
 exact I1.fpOk lb (I1.hok.fresh lb)
theorem tE {X:Cx}{K:ae}{es:List Expr}{k:Nat}{po:Pos}{a b:Expr}{ta:TA}{p pos:Pos}(hK:X.K=K)(hg:Gl X "zip")(hm:X.mg "zip" = none)(ha:PA X [a,b] ta)(hs:fi [a,b] X.env=[(false,eval a X.env),(false,eval b X.env)]:=by rfl)(hs2:fi [b] X.env=[(false,eval b X.env)]:=by rfl) :
  PI X (.Tuple es k po) (.Call (.Name "zip" p) [a,b] [] pos) (aHh K ta):=by subst hK;exact aHR hg hm ha hs hs2
theorem aGg {K:ae}{b1 b2:Bool}{l1 l2:Addr}{xs ys:List V}{g:TG}{tb:TS}{D:mB}{σ:St}{H:Hp}(hlen:ys.length=xs.length)(Pv:Nat->St->Hp->Prop)(h0:Pv 0 σ H)(hl:∀i σ H,i<=xs.length->Pv i σ H->SqB b1 K H l1 xs/\SqB b2 K H l2 ys)
  (hs:∀i x y σ H p,xs[i]?=some x->ys[i]?=some y->H p=none->Pv i σ H->g (.ref p) σ (upd H p (.tup [x,y])) λσ2 H2=>tb { D with nx:=Pv (i+1),ct:=Pv (i+1),bk:=D.nx } σ2 H2) (hd:∀σ H,Pv xs.length σ H->D.nx σ H) :
  gL (Itz K b1 b2 l1 l2) g tb D σ H:=by
 refine⟨λi m σ H=>m=xs.length - i/\i<=xs.length/\Pv i σ H,⟨xs.length,by simp,av _,h0⟩,?g⟩
 case g=>
 rintro i m σ H ⟨rfl,hi,p⟩
 obtain⟨q1,q2⟩:=hl i σ H hi p
 by_cases hlt:i<xs.length
 ·refine .inr ⟨⟨xs,ys,xs[i],ys[i]'(by omega),q1,q2,by simp[hlt],by simp[show i<ys.length by omega]⟩,Pv (i+1),λσ' H' p'=>⟨xs.length - (i+1),by omega,rfl,hlt,p'⟩,λv H' ⟨a,x,y,e1,e2,e3,e4,e5⟩=>?g⟩
  case g=>
  subst e1;subst e3
  exact hs i x y σ H a (e4 xs q1) (e5 ys q2) e2 p
 ·obtain rfl:i=xs.length:=by omega
  exact .inl ⟨⟨xs,ys,q1,q2, .inl (ba _)⟩,hd σ H p⟩
structure aLE (mg:Str->Option Value):Prop extends Blt mg where
 zip:mg "zip" = none
 repr:mg "repr" = none
 enumerate:mg "enumerate" = none
 reversed:mg "reversed" = none
 str:mg "str" = none
section
variable {prog:Program}{w:World}{A:Around}{E:Value->Shared->Prop}{s:Shared}
end
theorem xA {X:Cx}{K:ae}{o e:Expr}{es:List Expr}{to:TE}{t:TA}{name:Str}{apos cpos:Pos}{T id:String}{r:V->List V->Hp->VK->Prop}(hK:X.K=K)(pa:PlainAttrs T)(slot:Slot T name id)(hty:typeOf (.builtin id)=pure (.type "method_descriptor"))(hm:MtM X id r)(ho:PE X o to)(ha:PA X (e :: es) t)
  (b1:wj o name X.env (eval o X.env)=eval o X.env:=by rfl)
  (b2:((vo cpos (fi (e :: es) X.env)).all (λx=>!x.1) && (backToKw cpos (keywordEach [] X.env)).all (λx=>x.1.isSome) && decide ((e :: es).length+([]:List Keyword).length+(if([]:List Keyword).isEmpty then 0 else 1)<30))=true:=by rfl)
  (b3:(apos.endLine == cpos.line)=true:=by rfl) (b4:fi (e :: es) X.env=(false,eval e X.env) :: fi es X.env:=by rfl) (b5:(vo cpos (fi es X.env)).any (·.1)=false:=by rfl) :
  PE X (.Call (.Attribute o name apos) (e :: es) [] cpos) (tBM K T r to t):=by subst hK;exact aKx pa slot hty hm ho ha b1 b2 b3 b4 b5
def aLh:R2:=λx y H Q=>(∃a b,x = .bl a/\y = .bl b/\Q (.bl (a == b)) H)\/(y = .non/\Q (.bl (decide (x = .non))) H)
def pF:R2:=λx y H Q=>(∃a b,x = .bl a/\y = .bl b/\Q (.bl (!(a == b))) H)\/(y = .non/\Q (.bl (!decide (x = .non))) H)
theorem aIX {X:Cx}:OpR X (gj .Is) aLh:=by
 refine OpR.or (λpins s σ H x y v u Q I rx ry h=>?g) aHY
 case g=>
 obtain⟨a,b,rfl,rfl,q⟩:=h
 obtain rfl:v=Value.bool a:=rx
 obtain rfl:u=Value.bool b:=ry
 exact wpAny_is_plain (by cases a <;> cases b <;> rfl) (aAb I q (by cases a <;> cases b <;> rfl))
theorem pB {X:Cx}:OpR X (gj .IsNot) pF:=by
 refine OpR.or (λpins s σ H x y v u Q I rx ry h=>?g) aGq
 case g=>
 obtain⟨a,b,rfl,rfl,q⟩:=h
 obtain rfl:v=Value.bool a:=rx
 obtain rfl:u=Value.bool b:=ry
 exact wpAny_isNot_plain (by cases a <;> cases b <;> rfl) (aAb I q (by cases a <;> cases b <;> rfl))
end L2
namespace L2
open PySem
def dJ (p:Nat):V := .int (p:Int)
theorem cT {c:Bool}{A B:Prop}(e:c=true)(h:A):if c=true then A else B:=by rw[if_pos e];exact h
theorem bB {c:Bool}{A B:Prop}(e:c=false)(h:B):if c=true then A else B:=by subst e;exact aLD h
theorem aBB {K:ae}{H:Hp}{a l:Addr}{xs ys:List V}{o:HO}(h:SqT K H a xs)(hl:H l=some (.lst ys)):SqT K (upd H l o) a xs:=by
 have key:∀u,H a=some u->(∀zs,u ≠ .lst zs)->upd H l o a=some u:=λu e n=>by
  rw[bC]
  ·exact e
  ·intro z
   rw[z,hl] at e
   cases e
   exact n _ rfl
 rcases h with(h | ⟨u,h⟩) | h
 ·exact .inl (.inl (key _ h λ_ z=>by cases z))
 ·exact .inl (.inr ⟨u,key _ h λ_ z=>by cases z⟩)
 ·exact .inr h
section
variable {K:ae}{H:Hp}
end
theorem aBL {c:Int}{n:Nat}(h:1<=n):∃k:Nat,c % (n:Int)=(k:Int)/\k<n:=by
 have g0:=xw c (show(n:Int)≠0 by omega)
 have g1:=Int.emod_lt_of_pos c (show(0:Int)<(n:Int) by omega)
 obtain⟨k,hk⟩:=Int.eq_ofNat_of_zero_le g0
 exact⟨k,hk,by omega⟩
def Rows (K:ae) (H:Hp) (xs:List V) (T:List (List Int)):Prop:=xs.length=T.length/\∀(i:Nat) (row:List Int),T[i]?=some row->∃b,xs[i]?=some (.ref b)/\SqT K H b (row.map V.int)
section
variable {K:ae}{H H':Hp}{xs:List V}{T:List (List Int)}
theorem Rows.map (h:Rows K H xs T)(f:∀b row,SqT K H b row->SqT K H' b row):Rows K H' xs T:=⟨h.1,λi row e=>by
 obtain⟨b,e1,e2⟩:=h.2 i row e
 exact⟨b,e1,f _ _ e2⟩⟩
theorem Rows.same (h:Rows K H xs T)(e:Same H H'):Rows K H' xs T:=h.map λ_ _ s=>e.tup s
theorem Rows.put (h:Rows K H xs T){l:Addr}{ys:List V}{o:HO}(hl:H l=some (.lst ys)):Rows K (upd H l o) xs T:=h.map λ_ _ s=>aBB s hl
theorem Rows.nil:Rows K H [] []:=⟨rfl,λi row e=>by cases e⟩
theorem Rows.snoc (h:Rows K H xs T){b:Addr}{r:List Int}(hb:SqT K H b (r.map V.int)):Rows K H (xs++[.ref b]) (T++[r]):=by
 refine⟨by rw[bc,bc,h.1];rfl,λi row e=>?_⟩
 by_cases hi:i<T.length
 ·rw[c8 hi] at e
  obtain⟨b',e1,e2⟩:=h.2 i row e
  exact⟨b',by rw[c8 (by rw[h.1];exact hi)];exact e1,e2⟩
 ·rw[c5 (by omega)] at e
  have:i - T.length=0:=by
   rcases hk:i - T.length with _ | k
   ·rfl
   ·rw[hk] at e;cases e
  rw[this] at e
  cases e
  exact⟨b,by rw[c5 (by rw[h.1];omega),h.1,this];rfl,hb⟩
theorem Rows.sh (h:Rows K H xs T){l:Addr}(hl:SqL K H l xs):Sh K H (.lst (T.map λr=>Dt.tup (r.map Dt.int))) (.ref l):=⟨l,xs,rfl,hl,ShL.of_rows h.1 h.2⟩
end
theorem xD (T:List (List Int)):dep (.lst (T.map λr=>Dt.tup (r.map Dt.int)))<=100:=by
 have hi:∀r:List Int,lV (r.map Dt.int)=0:=λr=>by
  induction r with
  |nil=>rfl
  |cons a r ih=>rw[c4,lV,ih];rfl
 have:∀T:List (List Int),lV (T.map λr=>Dt.tup (r.map Dt.int))<=1:=λT=>by
  induction T with
  |nil=>decide
  |cons r T ih=>rw[c4,lV,dep,hi];omega
 have:=this T
 rw[dep]
 omega
end L2
namespace L2
open PySem PySem.Spec PyProof.Rows
section
variable {prog:Program}{w:World}{A:Around}{E:Value->Shared->Prop}{s:Shared}
theorem aCz {b:Bool}{z it l:Addr}{k:Nat}{us:Array Value}{x u:Value}{Q:Value->Shared->Prop}(hne:z≠it)(hz:AS s.heap z it k u)(h1:ItAt b s.heap it l k)(o1:ObAt b s.heap l us)(hx:us[k]?=some x)
  (q:∀h',IsEnumOut h' z it ((k:Int)+1) x s.heap.objs.size->ItAt b h' it l (k+1)->h'.get? s.heap.objs.size=some { cls := .type "tuple",data := .seq #[.int k s.toks,x] }->h'.objs.size=s.heap.objs.size+1->(∀c o,c≠z->c≠it->s.heap.get? c=some o->h'.get? c=some o)->Q (.ref s.heap.objs.size) { s with heap:=h',toks:=s.toks+1 }) :
  wpAny (model prog w) A (Builtin.«enumerate.__next__» ⟨[.ref z],[]⟩) (λfin s'=>∃r,fin = .done (.ret r)/\Q r s') E s:=by
 show wpAny _ _ (field (.ref z) 2 >>= _) _ _ _;refine aa (gp hz rfl (x := .ref it) rfl (aa (nU (b:=b) h1 o1 hx λH1 t1 s1=>?g)))
 case g=>
 have z1:AS H1 z it k u:=s1.extBut _ _ hne hz
 show wpAny _ _ (field (.ref z) 3 >>= _) _ _ _;refine aa (gp z1 rfl (x:=jb k) rfl ?g)
 case g=>
 show wpAny _ _ (field (.ref z) 4 >>= _) _ _ _;refine aa (gp z1 rfl (x := .none) rfl ?g)
 case g=>
 show wpAny _ _ (mkInt k >>= _) _ _ _;refine aa (wpAny_mkInt ?g)
 case g=>
 show wpAny _ _ (Aa (.ref z) 3 (jb ((k:Int)+1)) >>= _) _ _ _;refine aa (gr z1 (by simp) λH2 z2 s2=>?g)
 case g=>
 replace z2:AS H2 z it ((k:Int)+1) u:=z2
 show wpAny _ _ (Aa (.ref z) 4 .none >>= _) _ _ _;refine aa (gr z2 (by simp) λH3 z3 s3=>?g)
 case g=>
 replace z3:AS H3 z it ((k:Int)+1) u:=z3
 show wpAny _ _ (newTuple [.int k s.toks,x] >>= _) _ _ _;refine aa (vf ?g)
 case g=>
 have sz:H3.objs.size=s.heap.objs.size:=by rw[s3.1,s2.1,s1.1]
 have z4:AS (H3.push { cls := .type "tuple",data := .seq #[.int k s.toks,x] }) z it ((k:Int)+1) u:=aj _ z3
 have lz:z<H3.objs.size:=bj z3
 show wpAny _ _ (f9 (.ref z) >>= _) _ _ _;unfold f9;refine aa (aa (gp z4 rfl (x := .none) rfl (ao ?g)))
 case g=>
 simp only[if_true];refine aa (nh (aa (gp z4 rfl (x:=u) rfl (aa (gr z4 (by simp) λH5 z5 s5=>?g)))))
 case g=>
 replace z5:AS H5 z it ((k:Int)+1) x:=z5
 show wpAny _ _ (i6 (.ref z) (.ref H3.objs.size) >>= _) _ _ _;unfold i6;refine aa (aa (gr z5 (by simp) λH6 z6 s6=>?g))
 case g=>
 replace z6:IsEnumOut H6 z it ((k:Int)+1) x H3.objs.size:=z6
 refine gr z6 (by simp) λH7 z7 s7=>?g
 case g=>
 replace z7:IsEnumOut H7 z it ((k:Int)+1) x H3.objs.size:=z7
 have up:∀c o,c≠z->H3.get? c=some o->H7.get? c=some o:=λc o n e=>s7.extBut _ _ n (s6.extBut _ _ n (s5.extBut _ _ n (aj _ e)))
 have p7:H7.get? H3.objs.size=some { cls := .type "tuple",data := .seq #[.int k s.toks,x] }:=s7.extBut _ _ (ja lz) (s6.extBut _ _ (ja lz) (s5.extBut _ _ (ja lz) (ay _ rfl)))
 have n7:H7.objs.size=H3.objs.size+1:=by rw[s7.1,s6.1,s5.1,e8]
 rw[sz] at z7 p7 n7
 refine aa (zh (ao ⟨_,rfl,(?g:Q (.ref H3.objs.size) _)⟩))
 case g=>
 rw[sz]
 refine q H7 z7 (t1.keep λo e=>up _ o hne.symm (s3.extBut _ _ hne.symm (s2.extBut _ _ hne.symm e))) p7 n7 λc o n m e=>up c o n (s3.extBut _ _ n (s2.extBut _ _ n (s1.extBut _ _ m e)))
theorem aEG {b:Bool}{z it l:Addr}{k:Nat}{us:Array Value}{u:Value}{Q:Fin->Shared->Prop}(hh:A.handled=none)(hz:AS s.heap z it k u)(h1:ItAt b s.heap it l k)(o1:ObAt b s.heap l us)(hx:us[k]?=none)
  (q:∀h' e,wm it s.heap h'->(∃o,h'.get? e=some o/\o.cls = .type "StopIteration")->E (.ref e) { s with heap:=h' }) :
  wpAny (model prog w) A (Builtin.«enumerate.__next__» ⟨[.ref z],[]⟩) Q E s:=by
 show wpAny _ _ (field (.ref z) 2 >>= _) _ _ _
 exact aa (gp hz rfl (x := .ref it) rfl (aa (yP (b:=b) hh h1 o1 hx q)))
end
def Ite (K : ae) (b : Bool) (l : Addr) : It :=
  ⟨λi H => ∃xs x, SqB b K H l xs /\ xs[i]? = some x,
   λi H v H' => ∃p x, v = .ref p /\ H p = none /\ H' = upd H p (.tup [.int (i : Int), x]) /\ ∀xs, SqB b K H l xs -> xs[i]? = some x,
   λi H => ∃xs, SqB b K H l xs /\ xs.length <= i⟩
def eTn (b:Bool) (z it l:Addr) (i:Nat) (h:Heap):Prop:=(∃u,AS h z it i u)/\ItAt b h it l i
theorem aDx {P:Program}{w:World}{K:ae}{es:List Expr}{k:Nat}{pos:Pos}{b:Bool}{z it l:Addr}(hne:z≠it) :
  aEW P w K (.Tuple es k pos) (Ite K b l) [z,it] z (eTn b z it l) where
 mem:=by simp
 obj:=λi h ⟨⟨u,h1⟩,⟨o2,h2,_,d2⟩⟩ c hb=>by
  simp only[cm,ip,or_false] at hb
  rcases hb with rfl | rfl
  ·exact⟨_,h1,λv q=>by cases q⟩
  ·exact⟨_,h2,λv q=>by rw[d2] at q;cases q⟩
 keep:=λi h h' ⟨⟨u,h1⟩,h2⟩ kp=>⟨⟨u,kp z (by simp) _ h1⟩,h2.keep λo e=>kp it (by simp) o e⟩
 item:=by
  intro X hP hw hK hc i pins s σ H E I hf st hg
  subst hP hw hK
  obtain⟨⟨u0,h1⟩,h2⟩:=st
  obtain⟨xs,x,q1,hx⟩:=hg
  obtain⟨us,r1,o1,z1⟩:=I.obAt q1
  obtain⟨ux,hux,rx⟩:=r1.get hx
  have hT:s.TypeIs (.ref z) "enumerate":=⟨_,h1,rfl⟩
  unfold qh
  refine aa (mi (dz (name:=jy "__next__") hT m9 (dt m9 hT xi (aCz hne h1 h2 o1 (by simpa using hux) λh' g1 g2 g3 g4 kp=>ao ⟨_,rfl,?g⟩) (wq _))))
  case g=>
  refine wpAny_letOwnedTupleGo_enum (s:={ s with heap:=h',toks:=s.toks+1 }) g1 λh2' g1' sb=>?g
  case g=>
  have lt:∀c∈[z,it],c<s.heap.objs.size:=λc hb=>by
   simp only[cm,ip,or_false] at hb
   rcases hb with rfl | rfl
   ·exact bj h1
   ·exact h2.lt
  have kb:∀c o,c∉[z,it]->s.heap.get? c=some o->h'.get? c=some o:=λc o n e=>kp c o (λq=>n (by simp[q])) (λq=>n (by simp[q])) e
  have hn:H s.heap.objs.size=none:=I.hok.fresh (ba _)
  have I1:Inv X pins σ (upd H s.heap.objs.size (.tup [.int (i:Int),x])) { s with heap:=s.heap.push { cls := .type "tuple",data := .seq #[.int i s.toks,ux] },toks:=s.toks+1 }:=
   I.laid (t':=s.toks+1) (λc o e=>aj _ e) (ba _) (show ObjOk X.prog X.w _ _ _ (.tup [.int (i:Int),x]) from⟨show 2<=bx by decide,[.int i s.toks,ux], .cons ⟨_,rfl⟩ (.cons rx .nil),TupN.new _ _⟩)
  have hf1:∀c∈[z,it],FpOk X pins (upd H s.heap.objs.size (.tup [.int (i:Int),x])) c:=λc hb=>by
   obtain⟨f0,f⟩:=hf c hb
   exact⟨by rw[bC (c6 (lt c hb))];exact f0,f⟩
  have I2:Inv X pins σ (upd H s.heap.objs.size (.tup [.int (i:Int),x])) { s with heap:=h',toks:=s.toks+1 }:=I1.turnedL (t':=s.toks+1) hf1 λc o nb e=>by
   rcases yv e with⟨eb,eo⟩ | e
   ·subst eb;subst eo
    exact g3
   ·exact kb c o nb e
  have I3:Inv X pins σ (upd H s.heap.objs.size (.tup [.int (i:Int),x])) { s with heap:=h2',toks:=s.toks+1 }:=I2.turnedL (t':=s.toks+1) hf1 λc o nb e=>sb.extBut _ _ (λq=>nb (by simp[q])) e
  exact⟨.ref s.heap.objs.size,_,I3,rfl,⟨_,x,rfl,hn,rfl,λxs' e=>by rw[I.sqB_inj e q1];exact hx⟩,
   ⟨⟨_,by simpa using g1'⟩,g2.keep λo e=>sb.extBut _ _ hne.symm e⟩,λc hb=>(hf1 c hb).1⟩
 done:=by
  intro X hP hw hK hc i pins s σ H E I hf st hg
  subst hP hw hK
  obtain⟨⟨u0,h1⟩,h2⟩:=st
  obtain⟨xs,q1,hl⟩:=hg
  obtain⟨us,r1,o1,z1⟩:=I.obAt q1
  have l1':=r1.length
  have hT:s.TypeIs (.ref z) "enumerate":=⟨_,h1,rfl⟩
  unfold qh
  refine aa (mi (dz (name:=jy "__next__") hT m9 (dt m9 hT xi (aEG (I.ok.hd hc) h1 h2 o1 (by simp;omega) λh' e kp ⟨o,e1,e2⟩=>?g) (wq _))))
  case g=>
  refine aa (j6 (T:="StopIteration") (b:=true) ⟨o,e1,e2⟩ vg (ao ⟨rfl,?g⟩))
  case g=>
  exact I.turnedL (t':=s.toks) hf λc o n e=>kp c o (λq=>n (by simp[q])) e
 self:=λ_ _ _ _ _ st q=>let⟨⟨_,h1⟩,_⟩:=st;wpAny_pyIter_enum h1 q
abbrev eH (h:Heap) (b:Bool) (l:Addr):Heap:=(h.push (itO b l)).push { cls := .type "enumerate",data := .fields #[.none, .bool false, .ref h.objs.size,jb 0, .none, .none] }
theorem aEl (b:Bool)(l:Addr)(xs:Array Value)(o:Obj) :
  Meets (Builtin.«enumerate.__new__» ⟨[.type "enumerate", .ref l],[]⟩) (λ_ R s=>s.heap.get? l=some o/\ObAt b s.heap l xs/\R (.ok (.ret (.ref (s.heap.push (itO b l)).objs.size))) { s with heap:=eH s.heap b l }):=
 .of_wp λprog w A R s h=>by
  obtain⟨s1,s2,s3,s4,s5⟩:=s
  obtain⟨m0,m1,q⟩:=h
  have hsub:=sub_enumerate
  have n1:ObAt b (AR ⟨s1,s2,s3,s4,s5⟩) l xs:=m1
  wp_walk using j3 m0
  refine wpAny_stack_any λst=>ao ?_
  split
  ·rename_i cc _ _ _ _ _
   cases (cc == Value.type "enumerate") <;>
   ·wp_walk using j3 m0,oA n1
    exact⟨_,rfl,q⟩
  ·wp_walk using j3 m0,oA n1
   exact⟨_,rfl,q⟩
theorem aCK {prog:Program}{w:World}{A:Around}{E:Value->Shared->Prop}{s:Shared}{b:Bool}{l:Addr}{xs:Array Value}{Q:Value->Shared->Prop}(o1:ObAt b s.heap l xs)
  (q:∀h',eTn b (s.heap.objs.size+1) s.heap.objs.size l 0 h'->(∀c o,s.heap.get? c=some o->h'.get? c=some o)->Q (.ref (s.heap.objs.size+1)) { s with heap:=h' }) :
  wpAny (model prog w) A (call (.type "enumerate") [.ref l]) Q E s:=by
 obtain⟨o,e0,ec,n,ed⟩:=id o1
 refine callType_new F.called_enumerate (by decide) (F.typeCall_enumerate_1 _) (F.newCall_enumerate_1 _) (λob=>F.args_object_init_2 ob _) F.entry_enumerate_new (aEl b l xs o) ⟨e0,o1,?g⟩
 case g=>
 have z1:(s.heap.push (itO b l)).objs.size=s.heap.objs.size+1:=e8 ..
 have g2:(eH s.heap b l).get? (s.heap.push (itO b l)).objs.size=some _:=ay _ rfl
 have g1:(eH s.heap b l).get? s.heap.objs.size=some _:=aj _ (ay _ rfl)
 rw[z1] at g2
 show _/\_
 rw[z1]
 exact⟨⟨_,g2,rfl⟩,q _ ⟨⟨_,g2⟩,⟨_,g1,rfl,rfl⟩⟩ λc o x=>aj _ (aj _ x)⟩
def aEp (K:ae) (ta:TA):TI:=λσ H R=>ta σ H λvs H1=>∃l b,vs=[.ref l]/\(∃xs,SqB b K H1 l xs)/\R (Ite K b l) H1
theorem wF:e9 "enumerate" = some (.type "enumerate"):=by decide+kernel
theorem aGB {X:Cx}{es:List Expr}{k:Nat}{po:Pos}{a:Expr}{ta:TA}{p pos:Pos}(hg:Gl X "enumerate")(hm:X.mg "enumerate" = none)(ha:PA X [a] ta)(hs:fi [a] X.env=[(false,eval a X.env)]:=by rfl) :
  PI X (.Tuple es k po) (.Call (.Name "enumerate" p) [a] [] pos) (aEp X.K ta):=by
 intro pins s σ H R I h
 refine Call_ (oH I hg hm wF (jg (thn (ha pos pins s σ H _ I h) λus s1 ⟨vs,H1,I1,r1,q1⟩=>?g) hs rfl))
 case g=>
 obtain⟨l,b,e,⟨xs,q2⟩,q⟩:=q1
 subst e
 obtain⟨u1,rfl,e1⟩:=aAX r1
 obtain rfl:u1=Value.ref l:=e1
 obtain⟨x1,v1,o1,_⟩:=I1.obAt q2
 refine aCK o1 λh' zt kp=>?g
 case g=>
 obtain⟨⟨u0,zt1⟩,zt2⟩:=id zt
 refine wpAny_pyIter_enum (s:={ s1 with heap:=h' }) zt1 ?g
 case g=>
 refine⟨_,[s1.heap.objs.size+1,s1.heap.objs.size],_,_,H1,rfl,I1.kept (t':=s1.toks) kp,aDx (ja (jo _)),zt,λc hb=>?g,q⟩
 case g=>
 have lb:s1.heap.objs.size<=c:=by
  simp only[cm,ip,or_false] at hb
  rcases hb with rfl | rfl <;> first | exact i9 _ _ | exact ba _
 exact I1.fpOk lb (I1.hok.fresh lb)
theorem aAf {X:Cx}{K:ae}{es:List Expr}{k:Nat}{po:Pos}{a:Expr}{ta:TA}{p pos:Pos}(hK:X.K=K)(hg:Gl X "enumerate")(hm:X.mg "enumerate" = none)(ha:PA X [a] ta)(hs:fi [a] X.env=[(false,eval a X.env)]:=by rfl) :
  PI X (.Tuple es k po) (.Call (.Name "enumerate" p) [a] [] pos) (aEp K ta):=by subst hK;exact aGB hg hm ha hs
theorem zZ {K:ae}{b:Bool}{l:Addr}{xs:List V}{g:TG}{tb:TS}{D:mB}{σ:St}{H:Hp}(Pv:Nat->St->Hp->Prop)(h0:Pv 0 σ H)(hl:∀i σ H,i<=xs.length->Pv i σ H->SqB b K H l xs)
  (hs:∀i x σ H p,xs[i]?=some x->H p=none->Pv i σ H->g (.ref p) σ (upd H p (.tup [.int (i:Int),x])) λσ2 H2=>tb { D with nx:=Pv (i+1),ct:=Pv (i+1),bk:=D.nx } σ2 H2) (hd:∀σ H,Pv xs.length σ H->D.nx σ H) :
  gL (Ite K b l) g tb D σ H:=by
 refine⟨λi m σ H=>m=xs.length - i/\i<=xs.length/\Pv i σ H,⟨xs.length,by simp,av _,h0⟩,?g⟩
 case g=>
 rintro i m σ H ⟨rfl,hi,p⟩
 have q1:=hl i σ H hi p
 by_cases hlt:i<xs.length
 ·refine .inr ⟨⟨xs,xs[i],q1,by simp[hlt]⟩,Pv (i+1),λσ' H' p'=>⟨xs.length - (i+1),by omega,rfl,hlt,p'⟩,λv H' ⟨a,x,e1,e2,e3,e4⟩=>?g⟩
  case g=>
  subst e1;subst e3
  exact hs i x σ H a (e4 xs q1) e2 p
 ·obtain rfl:i=xs.length:=by omega
  exact .inl ⟨⟨xs,q1,ba _⟩,hd σ H p⟩
end L2
namespace L2
open PySem
section
variable {X:Cx}{es:List Expr}{te:TE}{t:TA}
theorem bX {c:Const}{k:Nat}{p:Pos}(ha:PE X (.Constant c k p) te)(hr:PA X es t):PA X (.Constant c k p :: es) (aC te t):=cK ha hr
theorem aB {n:Str}{p:Pos}(ha:PE X (.Name n p) te)(hr:PA X es t):PA X (.Name n p :: es) (aC te t):=cK ha hr
theorem gQ {l:List Expr}{k:Nat}{p:Pos}(ha:PE X (.Tuple l k p) te)(hr:PA X es t):PA X (.Tuple l k p :: es) (aC te t):=cK ha hr
theorem cE {a b:Expr}{o:Operator}{p:Pos}(ha:PE X (.BinOp a o b p) te)(hr:PA X es t):PA X (.BinOp a o b p :: es) (aC te t):=cK ha hr
theorem aEd {a:Expr}{o:UnaryOp}{p:Pos}(ha:PE X (.UnaryOp o a p) te)(hr:PA X es t):PA X (.UnaryOp o a p :: es) (aC te t):=cK ha hr
theorem bL {a b:Expr}{p:Pos}(ha:PE X (.Subscript a b p) te)(hr:PA X es t):PA X (.Subscript a b p :: es) (aC te t):=cK ha hr
theorem cA {a:Expr}{l:List Expr}{kw:List Keyword}{p:Pos}(ha:PE X (.Call a l kw p) te)(hr:PA X es t):PA X (.Call a l kw p :: es) (aC te t):=cK ha hr
end
mutual
def aJy:Dt->Bool
 | .tup ds=>decide (ds.length<64) && aGW ds
 | .lst ds=>aGW ds
 |_=>true
def aGW:List Dt->Bool
 |[]=>true
 |d :: ds=>aJy d && aGW ds
end
def okM (m e:Nat) (d:Dt):Prop:=(toP d).showable=true/\(toP d).leavesShort 1930=true/\(toP d).bulk<=m/\dep d<=e/\aJy d=true
def Am (K:ae) (H:Hp) (m e:Nat) (x:V):Prop:=∃d,Sh K H d x/\okM m e d
def Goo (K:ae) (H:Hp) (v:V):Prop:=∃d,Sh K H d v/\okR d/\aJy d=true
section
variable {K:ae}{H H':Hp}
theorem Am.same {m e:Nat}{x:V}(s:Same H H'):Am K H m e x->Am K H' m e x:=λ⟨d,h,o⟩=>⟨d,h.same s,o⟩
theorem Goo.same {v:V}(s:Same H H'):Goo K H v->Goo K H' v:=λ⟨d,h,o⟩=>⟨d,h.same s,o⟩
def Tu (K:ae) (H:Hp) (m e k:Nat) (v:V):Prop:=∃a xs,v = .ref a/\SqT K H a xs/\xs.length<=k/\∀x∈xs,Am K H m e x
theorem Tu.same {m e k:Nat}{v:V}(s:Same H H'):Tu K H m e k v->Tu K H' m e k v:=λ⟨a,xs,h1,h2,h3,h4⟩=>⟨a,xs,h1,s.tup h2,h3,λx hx=>(h4 x hx).same s⟩
end
theorem aAO {c:Int}{n k:Nat}{H:Hp}{Q:VK}(h:1<=n)(e:c % (n:Int)=(k:Int))(q:Q (.int (k:Int)) H):zF (.int c) (.int (n:Int)) H Q:=⟨_,_,rfl,rfl,by omega,by show Q (.int (c % (n:Int))) H;rw[e];exact q⟩
end L2
namespace L2
open PySem PySem.Spec PyProof.Rows
inductive rJ:List (Value×Value)->List (Int×Int)->Prop
 |nil:rJ [] []
 |cons (a b:Int) (t u:Tok) {r:List (Value×Value)}{zs:List (Int×Int)}:rJ r zs->rJ ((.int a t, .int b u) :: r) ((a,b) :: zs)
def aAS (f:Bool):List (Int×Int)->Bool
 |[]=>f
 | (a,b) :: r=>if a=b then aAS f r else decide (a<b)
theorem vI {prog:Program}{w:World}{A:Around}{E:Value->Shared->Prop}{s:Shared}{a b:Int}{t u:Tok}{Q:Value->Shared->Prop}(h:Q (.bool (decide (a<b))) s):wpAny (model prog w) A (AK .Lt (.int a t) (.int b u)) Q E s:=lt_int h
theorem aDe (l b:Addr)(us vs:Array Value)(n n2:Nat)(dd dd2:Option Addr)(sl sl2:Array (Option Value))(zs:List (Int×Int))(hz:rJ (us.toList.zip vs.toList) zs) :
  Meets (Builtin.«tuple.__lt__» ⟨[.ref l, .ref b],[]⟩)
   (λ_ R s=>s.heap.get? l=some { cls := .type "tuple",dict:=dd,data := .seq us n,slots:=sl }/\s.heap.get? b=some { cls := .type "tuple",dict:=dd2,data := .seq vs n2,slots:=sl2 }/\R (.ok (.ret (.bool (aAS (decide (us.size<vs.size)) zs)))) s):=
 .of_wp λprog w A R s h=>by
  obtain⟨s1,s2,s3,s4,s5⟩:=s
  obtain⟨gl,gb,h⟩:=h
  have f2:=vp
  wp_walk using j3 gl,j3 gb,mn _ (λrest b s'=>b.1=none/\s'=⟨s1,s2,s3,s4,s5⟩/\∃ys,rJ rest ys/\R (.ok (.ret (.bool (aAS (decide (us.size<vs.size)) ys)))) ⟨s1,s2,s3,s4,s5⟩) _
  case turn=>
   rintro⟨y,x⟩ rest b s' ⟨hb',rfl,ys,hy,hR⟩
   cases hy with
   |cons p q t u hr=>
    refine aa (w5 ?_)
    by_cases e:p=q
    ·rw[show(p == q)=true by simpa using e]
     rw[aAS,if_pos e] at hR
     wp_walk
     exact⟨rfl,rfl,_,hr,hR⟩
    ·rw[show(p == q)=false by simpa using e]
     rw[aAS,if_neg e] at hR
     wp_walk using vI
     exact⟨_,rfl,hR⟩
  case fin=>
   rintro⟨b1,b2⟩ s' ⟨hb',rfl,ys,hy,hR⟩
   simp only at hb'
   subst hb'
   cases hy
   wp_walk
   exact⟨_,rfl,hR⟩
  case h=>
   exact⟨rfl,rfl,zs,hz,h⟩
section
variable {prog:Program}{w:World}{A:Around}{R:w6->Shared->Prop}{It:Addr}{fp wr:List Addr}{n:Nat}{P:Nat->Value->Prop}{St:Nat->Heap->Prop}
end
section
variable {prog:Program}{w:World}{A:Around}{E:Value->Shared->Prop}{s:Shared}
end
def lexL:List Int->List Int->Bool
 |[],[]=>false
 |[],_ :: _=>true
 |_ :: _,[]=>false
 |a :: r,b :: q=>if a=b then lexL r q else decide (a<b)
theorem yH:∀(ns ms:List Int),aAS (decide (ns.length<ms.length)) (ns.zip ms)=lexL ns ms
 |[],[]=>rfl
 |[],m :: ms=>by simp[aAS,lexL]
 |n :: ns,[]=>by simp[aAS,lexL]
 |n :: ns,m :: ms=>by
  rw[my,aAS,lexL,<- yH ns ms]
  have:decide ((n :: ns).length<(m :: ms).length)=decide (ns.length<ms.length):=by
   by_cases h:ns.length<ms.length <;> simp[h]
  rw[this]
theorem kP:∀ns:List Int,lexL ns ns=false
 |[]=>rfl
 |n :: ns=>by rw[lexL,if_pos rfl];exact kP ns
theorem lL:∀{a b c:List Int},lexL a b=true->lexL b c=true->lexL a c=true
 |[],[],_,h,_=>by cases h
 |[],_ :: _,[],_,h=>by cases h
 |[],_ :: _,_ :: _,_,_=>rfl
 |_ :: _,[],_,h,_=>by cases h
 |_ :: _,_ :: _,[],_,h=>by cases h
 |x :: a,y :: b,z :: c,h1,h2=>by
  rw[lexL] at h1 h2 ⊢
  by_cases e1:x=y <;> by_cases e2:y=z
  ·subst e1 e2
   rw[if_pos rfl] at h1 h2 ⊢
   exact lL h1 h2
  ·subst e1
   rw[if_neg e2] at h2 ⊢
   exact h2
  ·subst e2
   rw[if_neg e1] at h1 ⊢
   exact h1
  ·rw[if_neg e1] at h1
   rw[if_neg e2] at h2
   have g1:=of_decide_eq_true h1
   have g2:=of_decide_eq_true h2
   rw[if_neg (by omega)]
   exact decide_eq_true (by omega)
theorem aFH:∀{ns ms:List Int}{us vs:List Value},IntsAre us ns->IntsAre vs ms->rJ (us.zip vs) (ns.zip ms)
 |[],_,_,_,h,_=>by cases h;exact .nil
 |_ :: _,[],_,_,h,g=>by cases g;cases h;exact .nil
 |n :: ns,m :: ms,_,_,h,g=>by
  cases h with
  |cons _ t h=>
   cases g with
   |cons _ u g=>exact .cons n m t u (aFH h g)
theorem aHb {prog:Program}{w:World}{A:Around}{E:Value->Shared->Prop}{s:Shared}{a b:Addr}{us vs:List Value}{ns ms:List Int}{Q:Value->Shared->Prop}(hu:A.units<cLine)(ha:IsTup s.heap a us.toArray)(hb:IsTup s.heap b vs.toArray)(h1:IntsAre us ns)(h2:IntsAre vs ms)(q:Q (.bool (lexL ns ms)) s) :
  wpAny (model prog w) A (AK .Lt (.ref a) (.ref b)) Q E s:=by
 obtain⟨⟨oc,od,odt,osl⟩,e1,c1,n1,d1⟩:=ha
 obtain⟨⟨pc,pd,pdt,psl⟩,e2,c2,n2,d2⟩:=hb
 subst c1 d1 c2 d2
 refine xc (op := .Lt) ⟨_,e1,rfl⟩ ⟨_,e2,rfl⟩ F.slot_tuple_lt F.entry_tuple_lt (F.args_tuple_lt_2 _ _) (aDe a b us.toArray vs.toArray n1 n2 od pd osl psl (ns.zip ms) (aFH h1 h2)) ⟨e1,e2,?g⟩ hu
 case g=>
 have l1:=IntsAre.len h1
 have l2:=IntsAre.len h2
 rw[ar,ar,l1,l2,yH]
 exact⟨λz=>(by cases z),q⟩
section
variable {prog:Program}{w:World}{A:Around}{E:Value->Shared->Prop}{s:Shared}
end
section
variable {prog:Program}{w:World}{A:Around}{E:Value->Shared->Prop}{s:Shared}
end
end L2
namespace L2
open PySem
theorem aGc {X:Cx}{K:ae}{o:Expr}{to:TE}{name:Str}{apos cpos:Pos}{T id:String}{r:V->List V->Hp->VK->Prop}(hK:X.K=K)(pa:PlainAttrs T)(slot:Slot T name id)(hty:typeOf (.builtin id)=pure (.type "method_descriptor"))(hm:MtM X id r)(ho:PE X o to)
  (b1:wj o name X.env (eval o X.env)=eval o X.env:=by rfl) (b2:(apos.endLine == cpos.line)=true:=by rfl) :
  PE X (.Call (.Attribute o name apos) [] [] cpos) (aJW K T r to):=by subst hK;exact aHn pa slot hty hm ho b1 b2
end L2
namespace L2
open PySem PySem.Spec PyProof.Rows
section
variable {prog:Program}{w:World}{A:Around}{E:Value->Shared->Prop}{s:Shared}
end
section
variable {X:Cx}
end
end L2
namespace L2
open PySem
section
variable {X:Cx}
end
end L2
namespace L2
open PySem PySem.Spec PyProof.Rows
theorem yK:isSubtype (.type "tuple") (.type "set")=pure false:=by rw[q9];kernel_rfl
theorem zA:isSubtype (.type "tuple") (.type "frozenset")=pure false:=by rw[q9];kernel_rfl
section
variable {prog:Program}{w:World}{A:Around}{E:Value->Shared->Prop}{s:Shared}
end
section
variable {X:Cx}
theorem aCo:∀{ns:List Int}{us:List Value},Vals (ns.map V.int) us->IntsAre us ns
 |[],us,r=>by cases r;exact .nil
 |n :: ns,us,r=>by
  cases r with
  |cons h t=>
   obtain⟨tk,rfl⟩:=h
   exact .cons n tk (aCo t)
end
section
variable {X:Cx}
end
end L2
namespace L2
open PySem
structure aLz (mg:Str->Option Value):Prop extends aLE mg where
 set:mg "set" = none
theorem aBP:e9 "set" = some (.type "set"):=by decide+kernel
section
variable {X:Cx}
end
structure aLo (mg:Str->Option Value):Prop extends aLz mg where
 abs:mg "abs" = none
theorem wX:e9 "abs" = some (.builtin "abs"):=by decide+kernel
def aAr:List V->Hp->VK->Prop:=λxs H Q=>∃i:Int,xs=[.int i]/\Q (.int (if i<0 then -i else i)) H
theorem iK {X:Cx}:CallR X (.builtin "abs") aAr:=aEs
section
variable {vars:List Nat}{tb:TS}{acc a:Addr}{σ:St}{H:Hp}{j:Nat}{D:mB}{K:ae}
end
def EmR (K:ae) (vars:List Nat) (tb:TS) (acc:Addr) (σ:St) (H:Hp) (L:List (List Int)):Prop:=
 ∀(D:mB) (pre:List V) (R:List (List Int)),H acc=some (.lst pre)->Rows K H pre R->R.length+L.length<=100000->(∀σ' H' pre',σ'.length=σ.length->Agree vars σ σ'->SameX acc H H'->H' acc=some (.lst pre')->Rows K H' pre' (R++L)->D.nx σ' H')->tb D σ H
section
variable {K:ae}{vars:List Nat}{tb:TS}{acc:Addr}{σ:St}{H:Hp}
theorem EmR.cast {L L':List (List Int)}(h:EmR K vars tb acc σ H L)(e:L=L'):EmR K vars tb acc σ H L':=e ▸ h
theorem aCX {ta:TA}{r:List Int}(hr:r.length<=100)(h:∀Q:List V->Hp->Prop,Q (r.map V.int) H->ta σ H Q):EmR K vars (cP (lS ta) acc) acc σ H [r]:=by
 intro D pre R ha hR hz hd
 refine h _ ⟨by rw[af];exact c9 hr (by decide),λt ht=>?_⟩
 have st:=aI ht (.tup (r.map V.int))
 have ha':=st _ _ ha
 refine⟨pre,ha',bo (show pre.length<=100000 by rw[hR.1];omega) (by decide),?_⟩
 exact hd σ _ _ rfl (Agree.refl _ _) (st.x.trans (SameX.put _)) aG (Rows.snoc (Rows.put (hR.same st) ha') (aBB (.of aG) ha'))
theorem uT {lo:Int}{n j:Nat}{L:Nat->List (List Int)}(hj:j∈vars)(hjl:j<σ.length)
  (h:∀i σ' H',i<n->σ'.length=σ.length->Agree vars σ σ'->σ'[j]?=some (some (.int (lo+(i:Int))))->SameX acc H H'->EmR K vars tb acc σ' H' (L i)) :
  EmR K vars (gL (Itr lo n) (aJ j) tb) acc σ H ((aq n).flatMap L):=by
 intro D pre R ha hR hz hd
 refine cZ (lo:=lo) (n:=n) (g:=aJ j) (D:=D) (λi σ' H'=>i<=n/\σ'.length=σ.length/\Agree vars σ σ'/\SameX acc H H'/\∃pre',H' acc=some (.lst pre')/\Rows K H' pre' (R++(aq i).flatMap L)) ⟨av _,rfl,Agree.refl _ _,SameX.refl _ _,pre,ha,by simpa using hR⟩ (λi σ1 H1 hi ⟨_,hl1,ag1,sx1,pre1,h1,r1⟩=>?_) λσ1 H1 ⟨_,hl1,ag1,sx1,pre1,h1,r1⟩=>hd σ1 H1 pre1 hl1 ag1 sx1 h1 r1
 have hle:=cR L (show i+1<=n from hi)
 rw[aT,bc] at hle
 refine h i (σ1.set j (some (.int (lo+(i:Int))))) H1 hi (by rw[df];exact hl1) (ag1.trans (Agree.set hj _)) (gK (by omega)) sx1 _ pre1 _ h1 r1 (by rw[bc];omega) λσ' H' pre' hl ag sx h2 r2=>⟨hi,hl.trans ((df ..).trans hl1),(ag1.trans (Agree.set hj _)).trans ag,sx1.trans sx,pre',h2,by rw[aT,<- gz];exact r2⟩
theorem aGE {ti:TI}{lo:Int}{n j:Nat}{L:Nat->List (List Int)}(hti:∀R:It->Hp->Prop,R (Itr lo n) H->ti σ H R)(hj:j∈vars)(hjl:j<σ.length)
  (h:∀i σ' H',i<n->σ'.length=σ.length->Agree vars σ σ'->σ'[j]?=some (some (.int (lo+(i:Int))))->SameX acc H H'->EmR K vars tb acc σ' H' (L i)) :
  EmR K vars (kL ti (aJ j) tb) acc σ H ((aq n).flatMap L):=by
 intro D pre R ha hR hz hd
 exact hti _ (uT hj hjl h D pre R ha hR hz hd)
theorem aAG (vars:List Nat)(L:List (List Int)){g:TG}{J:It}{D:mB}(ha:H acc=none)(hz:L.length<=100000)(h:EmR K vars (gL J g tb) acc σ (upd H acc (.lst [])) L)
  (q:∀σ' H' pre,Same H H'->H' acc=some (.lst pre)->Rows K H' pre L->D.nx σ' H'):gL J g tb D σ (upd H acc (.lst [])):=
 h _ [] [] aG Rows.nil (by simpa using hz) λσ' H' pre' _ _ sx h1 h2=>q σ' H' pre' (cI ha sx) h1 (by simpa using h2)
end
end L2
namespace L2
open PySem PySem.Spec PyProof.Rows
open PySem.SeqAt
def EqA (A:Around) (s:Shared) (u v:Value) (b:Bool):Prop:=∀(prog:Program) (w:World) (E:Value->Shared->Prop) (Q:Bool->Shared->Prop),Q b s->wpAny (model prog w) A (eqBool u v) Q E s
theorem eJ:∀r:List Int,lV (r.map Dt.int)=0
 |[]=>rfl
 |a :: r=>by rw[c4,lV,eJ r];rfl
theorem nX:∀{r q:List Int},eqL (r.map Dt.int) (q.map Dt.int)=true->r=q
 |[],[],_=>rfl
 |[],_ :: _,h=>by simp[eqL] at h
 |_ :: _,[],h=>by simp[eqL] at h
 |a :: r,b :: q,h=>by
  rw[c4,c4,eqL,b7] at h
  have h1:a=b:=by have:=h.1;rw[eqD] at this;exact t6 this
  rw[h1,nX h.2]
theorem yE:∀{us:List Value}{ns:List Int},IntsAre us ns->∀j (h:j<us.length),∃t,us[j] = .int (ns.getD j 0) t
 |_,_, .nil,j,h=>absurd h (l9 _)
 |_,_, .cons n t h,0,_=>⟨t,rfl⟩
 |_,_, .cons n t h,j+1,hj=>by
  obtain⟨t',e⟩:=yE h j (by simpa using hj)
  exact⟨t',by simpa using e⟩
theorem zY:∀{us:List Value}{ns ms:List Int},IntsAre us ns->IntsAre us ms->ns=ms
 |_,_,_, .nil, .nil=>rfl
 |_,_,_, .cons n t h, .cons _ _ g=>by rw[zY h g]
theorem yR {A:Around}{s:Shared}{c d:Addr}{us vs:List Value}{r q:List Int}(hu:A.units<cLine)(hc:IsTup s.heap c us.toArray)(hd:IsTup s.heap d vs.toArray)(h1:IntsAre us r)(h2:IntsAre vs q):EqA A s (.ref c) (.ref d) (eqL (r.map Dt.int) (q.map Dt.int)):=by
 by_cases hcd:c=d
 ·subst hcd
  have e:us=vs:=by
   obtain⟨o,e1,_,n,e2⟩:=hc
   obtain⟨o',e3,_,m,e4⟩:=hd
   rw[e1] at e3
   cases e3
   rw[e2] at e4
   have e5:us=vs/\n=m:=by simpa using e4
   exact e5.1
  subst e
  rw[zY h1 h2,fG]
  exact EqAt.same _
 ·have l1:=IntsAre.len h1
  have l2:=IntsAre.len h2
  have he:∀(j:Nat) (h1:j<us.toArray.size) (h2:j<vs.toArray.size),EqAt A.in1 s us.toArray[j] vs.toArray[j] (eqD ((r.map Dt.int).getD j .non) ((q.map Dt.int).getD j .non)):=λj g1 g2=>by
   have g1:j<us.length:=by simpa using g1
   have g2:j<vs.length:=by simpa using g2
   obtain⟨t1,e1⟩:=yE h1 j g1
   obtain⟨t2,e2⟩:=yE h2 j g2
   have q1:(r.map Dt.int).getD j .non = .int (r.getD j 0):=by
    rw[ak,bh,ak,ah (by omega)]
    rfl
   have q2:(q.map Dt.int).getD j .non = .int (q.getD j 0):=by
    rw[ak,bh,ak,ah (by omega)]
    rfl
   have e1':us.toArray[j] = .int (r.getD j 0) t1:=by simpa using e1
   have e2':vs.toArray[j] = .int (q.getD j 0) t2:=by simpa using e2
   rw[q1,q2,e1',e2',eqD]
   exact EqAt.int_int _ _ _ _
  have rc:=RcAt.tuples (A:=A) hc hd hu he
  rw[ar,ar,l1,l2] at rc
  have:=lG (r.map Dt.int) (q.map Dt.int)
  rw[af,af] at this
  rw[this] at rc
  exact EqAt.of_refs hcd rc
section
variable {X:Cx}{tg:Expr}
end
section
variable {X:Cx}{pins:List (Addr×Obj)}{σ:St}{H:Hp}{s:Shared}
end
theorem KV.len {κ:Type}:∀{l:List (κ×V)}{m:List (κ×Value)},KV l m->l.length=m.length
 |_,_, .nil=>rfl
 |_,_, .cons _ t=>by rw[cy,cy,KV.len t]
theorem KV.at {κ:Type}:∀{l:List (κ×V)}{m:List (κ×Value)},KV l m->∀{i:Nat}{k:κ}{x:Value},m[i]?=some (k,x)->∃v,l[i]?=some (k,v)
 |_,_, .nil,_,_,_,h=>by cases h
 |_,_, .cons (a:=p) (b:=q) r t,0,k,x,h=>by
  have e:q=(k,x):=by simpa using h
  exact⟨p.2,by rw[List.getElem?_cons_zero,show p=(k,p.2) from AI (by rw[r.1,e]) rfl]⟩
 |_,_, .cons _ t,i+1,k,x,h=>KV.at t (i:=i) (by simpa using h)
section
open Builtin Builtin.ObjectAttr Builtin.Getset_descriptor
variable {prog:Program}{w:World}{A:Around}{E:Value->Shared->Prop}{s:Shared}{K:ae}{x C:Addr}{R:w6->Shared->Prop}
end
section
variable {X:Cx}
end
abbrev aFd:List Value:=[.type "ValueError", .type "Exception", .type "BaseException", .type "object"]
theorem aGL {K:ae}{h:Heap}{C:Addr}{bmB:List Value}{newId:String}(X:K.In h)(q:j9 K C bmB newId=true) :
  ∃bm N nm qn bs hdct sn sub ab col dd k0 k1 k2 k3 k5 mN,h.get? C=some (excClassObj nm qn C N bs bm hdct sn sub ab col dd k0 k1 k2 k3 k5 newId)/\h.Ns N mN/\mN "__init__" = none/\OwnTail h bmB bm:=by
 unfold j9 at q
 split at q
 ·rename_i dd cd sl ho
  split at q
  ·rename_i C' bm k0 k1 k2 k3 n k5 hm hs
   simp only[b7,beq_iff_eq,Bool.not_eq_true'] at q
   obtain⟨⟨⟨⟨⟨rfl,rfl⟩,hdel⟩,ht⟩,hok⟩,hni⟩:=q
   obtain⟨nm,bs,mro,ns,qn,hd,sn,sub,ab,col,del⟩:=cd
   dsimp only at hm hdel hok hni
   subst hm hdel
   have hsl:sl=#[k0,k1,k2,k3,some (.builtin n),k5]:=by
    obtain⟨l⟩:=sl
    simp only at hs
    rw[hs]
   subst hsl
   exact⟨bm,ns,nm,qn,bs,hd,sn,sub,ab,col,dd,k0,k1,k2,k3,k5,_,X _ _ ho, .of_isNs (PySem.W.isNs_of_in X hok),PySem.W.nsMap_none_of_in X hok hni,PySem.W.tail_of_in X ht⟩
  ·cases q
 ·cases q
def aBD (X:Cx) (E:XK):Prop:=∀(pins:List (Addr×Obj)) (σ:St) (H:Hp) (s:Shared) (cls:Value) (e:Addr) (vs:List Value) (h':Heap),Inv X pins σ H s->E cls none H->Heap.MadeExcOf s.heap h' e cls vs->X.xe (.ref e) { s with heap:=h' }
def vZ (C:Addr) (E:XK):TS:=λ_ _ H=>E (.ref C) none H
section
variable {X:Cx}{x:Str}{np cpos pos p:Pos}{C:Addr}{E:XK}{m:Str}{j:Nat}
theorem aEc (T:aBD X E)(hc:X.calm=true)(hg:Gl X x)(hm:X.mg x=some (.ref C))(q:j9 X.K C aFd "ValueError.__new__" = true)(hdb:(x == ("__debug__" : Str))=false:=by decide) :
  PS X (.Raise (some (.Call (.Name x np) [.Constant (.str m) j p] [] cpos)) none pos) (vZ C E):=by
 intro pins s σ H D I h
 obtain⟨bm,N,nm,qn,bs,hdct,sn,sub,ab,col,dd,k0,k1,k2,k3,k5,mN,hC,hN,hni,TL⟩:=aGL I.kIn q
 refine wpAny_Raise_call_subT (C:=C) (nm:=nm) (q:=qn) (N:=N) (bs:=bs) (bm:=bm) (hdct:=hdct) (sn:=sn) (sub:=sub) (ab:=ab) (col:=col) (dd:=dd) (k0:=k0) (k1:=k1) (k2:=k2) (k3:=k3) (k5:=k5)
  yw (mN:=mN) (TL.hasType yw.hasBase) (I.ok.hd hc) rfl hni (xY I hg hm ⟨rfl,?_⟩ hdb)
 refine yu (Calls.spliced_cons (Calls.Constant_str (k:=j) (pos:=p) (Calls.spliced_nil ⟨rfl,?_,hC,hN,TL,λh' e hx=>?_⟩)))
 ·show 1<=bx
  decide
 ·exact T pins σ H _ _ e _ h' (I.tok _) h hx
end
def zI (P:Program) (w:World):CXT:=λouter H s E e s'=>
 ∃(a:Addr) (cls a0:Value) (H':Hp) (B:Heap),e = .ref a/\s'.os=s.os/\wa s'.gens/\Un (frs outer) [] H H' s.heap s'.heap/\HOk P w H' s'.heap /\
  Heap.FlyingW B outer a cls a0 s'.heap/\(∀b o,s'.heap.get? b=some o->b∉frs outer->(H' b≠none\/∃o',s.heap.get? b=some o')->B.get? b=some o)/\E cls none H'
section
variable {X:Cx}{pins:List (Addr×Obj)}{σ:St}{H:Hp}{s:Shared}{E:XK}{a:Addr}{cls a0:Value}{B h2:Heap}
theorem ObjOk.there {P:Program}{w:World}{H:Hp}{h:Heap}{a:Addr}:∀{o:HO},ObjOk P w H h a o->∃u,h.get? a=some u
 | .lst _,⟨_,_,_,_,e⟩=>⟨_,e⟩
 | .tup _,⟨_,_,_,o,e,_⟩=>⟨_,e⟩
 | .dK _,⟨_,_,_,_,o,_,_,e,_⟩=>⟨_,e⟩
 | .dT _,⟨_,_,_,_,o,_,_,e,_⟩=>⟨_,e⟩
 | .set _ _,⟨o,_,_,_,e,_⟩=>⟨_,e⟩
 | .ins _ _ _,⟨_,_,_,e,_⟩=>⟨_,e⟩
 | .own _,⟨_,e⟩=>⟨_,e⟩
 | .xd _,⟨_,⟨_,_,_,e,_⟩,_⟩=>⟨_,e⟩
 | .rng _ _,⟨_,_,_,e⟩=>⟨_,e⟩
 | .frz _ _,⟨e,_⟩=>⟨_,e⟩
 | .tbl _,e=>⟨_,e⟩
 | .met _ _,e=>⟨_,e⟩
 | .ext _,⟨_,e,_⟩=>e
theorem aAu (hex:X.ex=[])(J:Inv X pins σ H s)(hfl:Heap.FlyingW B X.outer a cls a0 h2)(up:s.heap.UpToSlots h2)
  (cov:∀b o,s.heap.get? b=some o->b∉frs X.stack->(H b≠none\/∃o',X.s₀.heap.get? b=some o')->B.get? b=some o) (hE:E cls none H):zI X.prog X.w X.outer X.H₀ X.s₀ E (.ref a) { s with heap:=h2 }:=by
 have neL:∀b o,X.s₀.heap.get? b=some o->b≠X.env.locals:=λb o e=>c6 (aw (bj e) J.ok.above)
 have nx:∀b:Addr,b∉X.ex:=λb z=>by rw[hex] at z;cases z
 have nst:∀b,b≠X.env.locals->b∉frs X.outer->b∉frs X.stack:=λb h1 h2 z=>(cm.mp (J.stkSub b z)).elim h1 h2
 have tr:∀b u o,H b=some u->s.heap.get? b=some o->h2.get? b=some o:=λb u o e q=>
  hfl.1 b o (cov b o q (λz=>by rw[J.stkFree b z] at e;cases e) (.inl (by rw[e];exact λz=>by cases z)))
 have ko:∀b o,X.s₀.heap.get? b=some o->∀o1,s.heap.get? b=some o1->b∉frs X.outer->h2.get? b=some o1:=λb o e o1 q n=>hfl.1 b o1 (cov b o1 q (nst b (neL b o e) n) (.inr ⟨o,e⟩))
 refine⟨a,cls,a0,H,B,rfl,J.os,J.bare,⟨λb o e n hb _=>?_,λb o e n hb _=>?_,λb o e n _=>?_,λb o e _=>?_,J.base.tups,J.base.frzs,J.base.tbls⟩,λb u e=>?_,hfl,λb o e n hc=>?_,hE⟩
 ·exact ko b o e o (J.base.keep b o e n hb (nx b)) hb
 ·obtain⟨sl,e1⟩:=J.base.slot b o e n hb (nx b)
  obtain⟨_,o2,e2,nf⟩:=J.funs.mem hb
  rw[e1] at e2;cases e2
  obtain⟨sl',e3⟩:=up b _ e1 nf
  exact⟨sl',e3⟩
 ·exact J.base.free b o e n (nx b)
 ·obtain⟨o1,e1⟩:=J.base.there b o e (nx b)
  by_cases hb:b∈frs X.outer
  ·obtain⟨_,o2,e2,nf⟩:=J.funs.mem hb
   obtain⟨sl',e3⟩:=up b _ e2 nf
   exact⟨_,e3⟩
  ·exact⟨o1,ko b o e o1 e1 hb⟩
 ·refine(J.hok b u e).stay (λc v hc q=>?_) (λ_ q=>q) λ_ _ q=>q
  rcases hc with z | z
  ·rw[z] at q ⊢;exact tr b u v e q
  ·exact tr c _ v z q
 ·rcases hc with hc | ⟨o',e'⟩
  ·cases hu:H b with
   |none=>exact absurd hu hc
   |some u=>
    obtain⟨o1,e1⟩:=(J.hok b u hu).there
    have e2:=tr b u o1 hu e1
    rw[e] at e2;cases e2
    exact cov b o e1 (λz=>by rw[J.stkFree b z] at hu;cases hu) (.inl hc)
  ·obtain⟨o1,e1⟩:=J.base.there b o' e' (nx b)
   have e2:=ko b o' e' o1 e1 n
   rw[e] at e2;cases e2
   exact cov b o e1 (nst b (neL b o' e') n) (.inr ⟨o',e'⟩)
end
section
variable {P:Program}{w:World}{K:ae}{mg:Str->Option Value}{base:Heap}{N:List Str}{qual:Str}{scope:Scope}{f:Addr}{cd:Value}{A:Around}{outer:List Env}{s₀:Shared}{H₀:Hp}{E:XK}
theorem lR:aBD (xT (zI P w) P w K mg base N qual scope f cd A outer s₀ H₀ E) E:=by
 intro pins σ H s cls e vs h' I hE hx
 have hin:∀env∈(xT (zI P w) P w K mg base N qual scope f cd A outer s₀ H₀ E).stack,∀b,env.frame=some b->b∈frs (xT (zI P w) P w K mg base N qual scope f cd A outer s₀ H₀ E).stack:=λenv he b hb=>qb.mpr ⟨env,he,hb⟩
 show wpAny _ _ _ _ _ _
 refine wpAny_leaves_madeW (base:=PySem.W.hideAll s.heap (frs (xT (zI P w) P w K mg base N qual scope f cd A outer s₀ H₀ E).stack)) I.ok.frames rfl (λb o q=>PySem.W.of_hideAll _ q) (PySem.W.funFrames_hide I.stack hin) hx λh2 t x1 _ _ x4=>?_
 exact aAu (s:={ s with heap:=s.heap }) rfl I x1 ((Heap.UpToSlots.of_keeps hx.keeps).trans x4) (λb o q n _=>zd _ q n) hE
theorem lC:qX (zI P w) (xT (zI P w) P w K mg base N qual scope f cd A outer s₀ H₀ E) E:=by
 intro pins σ H s e s' I ⟨a,cls,a0,H',B,he,os,bare,un,hok,hfl,cov,hE⟩
 subst he
 have J:Inv (xT (zI P w) P w K mg base N qual scope f cd A outer s₀ H₀ E) pins σ H' s':=I.call' os un hok bare (λb z=>absurd z (by simp))
 show wpAny _ _ _ _ _ _
 refine wpAny_leaves_onW I.ok.frames rfl hfl λh2 x1 x2=>?_
 exact aAu rfl J x1 x2 (λb o q n hc=>cov b o q n (hc.elim .inl λ⟨o',z⟩ => .inr (I.base.there b o' z (by simp[xT])))) hE
end
section
variable {X:Cx}{pins:List (Addr×Obj)}{σ:St}{H:Hp}{s:Shared}
end
section
variable {X:Cx}{pins pn pins':List (Addr×Obj)}{σ:St}{H H':Hp}{s s':Shared}{W:Value->Shared->Prop}{a C:Addr}{cls a0:Value}{B h2:Heap}
end
section
variable {X:Cx}{x n:Str}{np pos hpos:Pos}{C0:Addr}{ie ln:Nat}{tb:XK->TS}{th:TS}{body suite:List Stmt}{b₀:Stmt}
end
section
variable {X:Cx}{st:Stmt}{t:TS}{x:Str}{np pos hpos cpos p:Pos}{C C0:Addr}{E:XK}{m:Str}{j:Nat}{K:ae}
theorem PS.nox (h:PS X.nox st t):PS X st t:=λpins s σ H D I hw=>
 jl (h pins s σ H D (I.wish _) hw) (λ_ _ q=>q.unwish) λ_ _ z=>lq z
theorem oV (hK:X.K=K)(T:aBD X E)(hc:X.calm=true)(hg:Gl X x)(hm:X.mg x=some (.ref C))(q:j9 K C aFd "ValueError.__new__" = true)(hdb:(x == ("__debug__" : Str))=false:=by decide) :
  PS X (.Raise (some (.Call (.Name x np) [.Constant (.str m) j p] [] cpos)) none pos) (vZ C E):=aEc T hc hg hm (by rw[hK];exact q) hdb
end
structure DefX (P:Program)(w:World)(K:ae)(mg:Str->Option Value)(base:Heap)(x:Str)(k:Nat)(ps:List Str)(sp:Sp):Prop where
 ex:∃(f:Addr) (fd:FuncData),FnOk P w K mg base (zI P w) k f fd ps sp/\mg x=some (.ref f)/\n5 K (.ref f)=true/\Binds K fd ps []
theorem DefX.mono {P:Program}{w:World}{K:ae}{mg:Str->Option Value}{base:Heap}{x:Str}{j k:Nat}{ps:List Str}{sp:Sp}(D:DefX P w K mg base x j ps sp)(h:j<=k):DefX P w K mg base x k ps sp:=by
 obtain⟨f,fd,F,r⟩:=D.ex
 exact⟨f,fd,F.mono h,r⟩
theorem lM {X:Cx}{x:Str}{k:Nat}{ps:List Str}{sp:Sp}{p pos:Pos}{e:Expr}{es:List Expr}{t:TA}{E:XK}(D:DefX X.prog X.w X.K X.mg X.base x k ps sp)(hr:Room k X.A)(hg:Gl X x)(hx:qX (zI X.prog X.w) X E)(ha:PA X (e :: es) t)
  (hdb:(x == ("__debug__" : Str))=false:=by decide) (he:fi (e :: es) X.env=(false,eval e X.env) :: fi es X.env:=by rfl) (hpl:(vo pos (fi es X.env)).any (·.1)=false:=by rfl) :
  PE X (.Call (.Name x p) (e :: es) [] pos) (aY sp [] E t):=by
 obtain⟨f,fd,F,hm,hk,hb⟩:=D.ex
 exact aCB F hr hg hm hk hb .nil hx ha hdb he hpl
section
variable {P:Program}{w:World}{K:ae}{mg:Str->Option Value}{base:Heap}
theorem Fun.okX {x qual:Str}{st:Stmt}{f:Addr}{fd:FuncData}{N ps:List Str}{k:Nat}{sp:Sp}(F:Fun K x qual st f fd)(S:lE N ps (cB st))(len:∀vs H Q E,sp vs H Q E->vs.length=ps.length)
  (hbody:∀(cdv:Value) (A:Around) (outer:List Env) (s:Shared) (H:Hp) (vs:List V) (Q:VK) (E:XK),Room k (A.deeper (xn qual (cB st) s.heap.objs.size f cdv))->sp vs H Q E ->
   ∃t,PSs (xT (zI P w) P w K mg base N qual (cB st) f cdv A outer s H E) (eE st) t/\t { nx:=λ_ H'=>Q .non H',rt:=Q } (bR N vs) H):FnOk P w K mg base (zI P w) (k+1) f fd ps sp:=by
 obtain⟨oc,od,kV,doc,pm,an,cdv,ct,osl,rfl,lk,hcd⟩:=F.ex
 exact aHD lk hcd S len λA outer s H vs Q E hr hsp=>hbody cdv A outer s H vs Q E hr hsp
end
end L2
namespace L2
open PySem
section
variable {X:Cx}
end
theorem zE {X:Cx}:qX (zI X.prog X.w) X E0:=λ_ _ _ _ _ _ _ ⟨_,_,_,_,_,_,_,_,_,_,_,_,h⟩=>h.elim
section
variable {P:Program}{w:World}
def IsPairKey (P:Program) (w:World) (h:Heap) (k:List Int×Int) (a:Addr):Prop:=∃o n b t,h.get? a=some o/\o.cls = .type "tuple"/\o.data = .seq #[.ref b, .int k.2 t] n/\iy (fm P w) h k.1 b
theorem IsPairKey.typeIs {s:Shared}{k:List Int×Int}{a:Addr}(x:IsPairKey P w s.heap k a):s.TypeIs (.ref a) "tuple":=let⟨o,_,_,_,ho,hc,_⟩:=x;⟨o,ho,hc⟩
theorem IsPairKey.inj {h:Heap}{a:Addr}{x y:List Int×Int}(hx:IsPairKey P w h x a)(hy:IsPairKey P w h y a):x=y:=by
 obtain⟨o,n,b,t,ho,_,hd,hi⟩:=hx
 obtain⟨o',n',b',t',ho',_,hd',hi'⟩:=hy
 obtain rfl:o=o':=az (ho.symm.trans ho')
 rw[hd] at hd'
 injection hd' with h1 _
 have h2:[Value.ref b, .int x.2 t]=[.ref b', .int y.2 t']:=congrArg As h1
 injection h2 with h3 h4
 injection h4 with h5 _
 injection h3 with h3
 injection h5 with h5 _
 subst h3
 exact AI (hi.inj hi') h5
theorem IsPairKey.keeps {h h':Heap}{k:List Int×Int}{a d:Addr}{o:Obj}{es ep}(x:IsPairKey P w h k a)(ho:h.get? d=some o)(hd:o.data = .dict es ep)(hs:fg d h h'):IsPairKey P w h' k a:=by
 obtain⟨o',n,b,t,ho',hc,hd',hi⟩:=x
 have hne:a≠d:=by
  rintro rfl
  obtain rfl:o'=o:=az (ho'.symm.trans ho)
  rw[hd] at hd';exact nomatch hd'
 exact⟨o',n,b,t,(hs.2 a hne).trans ho',hc,hd',hi.keeps ho hd hs⟩
def tO (P:Program) (w:World) (k:List Int×Int):Int:=yt (ft [nc (fm P w) k.1,(fm P w).hash k.2])
variable {A:Around}{E:Value->Shared->Prop}{s:Shared}
theorem yY {k:List Int×Int}{a:Addr}{Q:Int->Shared->Prop}(hu:A.units+5<cLine)(hk:IsPairKey P w s.heap k a)(h:Q (tO P w k) { s with toks:=s.toks+(k.1.length+3) }) :
  wpAny (model P w) A (pyHash (.ref a)) Q E s:=by
 have hT:=hk.typeIs
 obtain⟨o,n,b,t,ho,_,hd,hi⟩:=hk
 unfold pyHash
 first | unfold pyHashByItsType | skip
 first | refine aa (wpAny_cRoomFor_or (.inr (by omega)) ?_) | skip
 refine aa (ng hT nq.lookup ?_)
 show wpAny _ _ (if(some (Value.builtin "tuple.__hash__") == some Value.none)=true then _ else _) Q E s
 rw[if_neg (by rw[beq_builtin_none];exact bq)]
 refine aa (ng hT nq.lookup ?_)
 show wpAny _ _ (callSpecialIfBoundUnlessNone? (.ref a) "__hash__" _ >>= _) Q E s
 refine aa (wpAny_callSpecialIfBoundUnlessNone?_slot hT nq (dt nq hT F.entry_tuple_hash ?_ (F.args_tuple_hash_1 _)))
 show wpAny _ _ (nv (.ref a) >>= _) _ _ s
 refine aa (u5 ho hd ?_)
 refine aa ?_
 rw[<- mz]
 show wpAny _ _ (forIn [Value.ref b,Value.int k.2 t] #[] _) _ _ s
 rw[i4]
 refine aa (aa (wpAny_pyHash_tuple (knd:=fm P w) (show A.units+1<cLine by omega) hi (ao ?_)))
 show wpAny _ _ (forIn [Value.int k.2 t] #[nc (fm P w) k.1] _) _ _ _
 rw[i4]
 refine aa (aa ((fm P w).pyHash (k:=k.2) (v := .int k.2 t) (by show Value.isInt k.2 (.int k.2 t)=true;unfold Value.isInt;exact beq_self_eq_true _) (ao ?_)))
 show wpAny _ _ (forIn [] #[nc (fm P w) k.1,(fm P w).hash k.2] _) _ _ _
 rw[kg]
 refine ao ?_
 show wpAny _ _ (retInt (ft [nc (fm P w) k.1,(fm P w).hash k.2])) _ _ _
 refine wpAny_ret_mkInt ?_
 show wpAny _ _ (if(decide (-(2:Int) ^ 63<=ft [nc (fm P w) k.1,(fm P w).hash k.2]) && decide (ft [nc (fm P w) k.1,(fm P w).hash k.2]<2 ^ 63))=true then _ else _) Q E _
 unfold tO yt at h
 by_cases hr:(decide (-(2:Int) ^ 63<=ft [nc (fm P w) k.1,(fm P w).hash k.2]) && decide (ft [nc (fm P w) k.1,(fm P w).hash k.2]<2 ^ 63))=true
 ·rw[if_pos hr]
  rw[if_pos hr] at h
  exact ao (by simpa[Nat.add_assoc] using h)
 ·rw[if_neg hr]
  rw[if_neg hr] at h
  exact aa (nh (ao (by simpa[Nat.add_assoc] using h)))
theorem wH {x y:List Int×Int}{a b:Addr}{Pd:Fin->Shared->Prop}(hu:A.units<cLine)(hx:IsPairKey P w s.heap x a)(hy:IsPairKey P w s.heap y b)(h:Pd (.done (.ret (.bool (decide (x=y))))) s) :
  wpAny (model P w) A (Builtin.«tuple.__eq__» ⟨[.ref a, .ref b],[]⟩) Pd E s:=by
 have hTb:=hy.typeIs
 obtain⟨oa,na,ia,ta,hoa,_,hda,hia⟩:=hx
 obtain⟨ob,nb,ib,tb,hob,_,hdb,hib⟩:=hy
 show wpAny _ _ (isInstance (.ref b) (.type "tuple") >>= _) _ _ s
 refine aa (j6 hTb rj ?_)
 simp only[jh,dk,if_false]
 refine aa (u5 hoa hda ?_)
 refine aa (u5 hob hdb ?_)
 refine aa ?_
 show wpAny _ _ (forIn [(Value.ref ia,Value.ref ib),(Value.int x.2 ta,Value.int y.2 tb)] _ _) _ _ s
 rw[i4]
 refine aa (aa (u6 (knd:=fm P w) hu hia hib ?_))
 by_cases h1:x.1=y.1
 ·rw[decide_eq_true h1]
  simp only[jh,dk,if_false]
  refine ao ?_
  show wpAny _ _ (forIn [(Value.int x.2 ta,Value.int y.2 tb)] _ _) _ _ s
  rw[i4]
  refine aa (aa (w5 ?_))
  by_cases h2:x.2=y.2
  ·rw[show(x.2 == y.2)=true by rw[h2];exact beq_self_eq_true _]
   simp only[jh,dk,if_false]
   refine ao ?_
   show wpAny _ _ (forIn [] _ _) _ _ s
   rw[kg]
   refine ao (ao ?_)
   have e:decide (x=y)=true:=decide_eq_true (AI h1 h2)
   rw[e] at h
   exact h
  ·rw[show(x.2 == y.2)=false by exact beq_false_of_ne h2]
   simp only[Bool.not_false,if_true]
   have e:decide (x=y)=false:=decide_eq_false λz=>h2 (congrArg Prod.snd z)
   rw[e] at h
   exact aa (ao (ao (ao (ao h))))
 ·rw[decide_eq_false h1]
  simp only[Bool.not_false,if_true]
  have e:decide (x=y)=false:=decide_eq_false λz=>h1 (congrArg Prod.fst z)
  rw[e] at h
  exact aa (ao (ao (ao (ao h))))
theorem yX {x y:List Int×Int}{a b:Addr}{Q:Bool->Shared->Prop}(hu:A.units+5<cLine)(hx:IsPairKey P w s.heap x a)(hy:IsPairKey P w s.heap y b)(h:Q (decide (x=y)) s) :
  wpAny (model P w) A (eqBool (.ref a) (.ref b)) Q E s:=by
 unfold eqBool
 try with_reducible refine fq ?_
 show wpAny _ _ (if(Value.ref a == Value.ref b)=true then _ else _) Q E s
 by_cases hab:(Value.ref a == Value.ref b)=true
 ·rw[if_pos hab]
  have e:a=b:=by have:=t6 hab;injection this
  subst e
  obtain rfl:=hx.inj hy
  exact aa (nh (ao (by simpa using h)))
 ·rw[if_neg hab]
  exact aa (wpAny_richCompare_same_room (op := .Eq) hx.typeIs hy.typeIs ub
   (dt ub hx.typeIs F.entry_tuple_eq (wH (show A.units+1<cLine by omega) hx hy ⟨_,rfl,(λe=>nomatch e),gm h⟩) (F.args_tuple_eq_2 _ _)) (by omega))
theorem aEi {ks:List Int}{a:Addr}{m:Nat}{Q:Bool->Shared->Prop}(hk:iy (fm P w) s.heap ks a)(h:Q true s):wpAny (model P w) A (AU (m+1) (.ref a)) Q E s:=by
 have hT:=hk.typeIs
 obtain⟨o,items,n,ho,_,hd,hi⟩:=hk
 unfold AU
 refine aa (ng hT ub.lookup ?_)
 show wpAny _ _ (isInstance (.ref a) (.type "tuple") >>= _) _ _ s
 refine aa (j6 hT rj ?_)
 simp only[jh,dk,if_false]
 refine aa (i5 ho hd ?_)
 refine aa ?_
 show wpAny _ _ (forIn items _ _) _ _ s
 rw[<- mz]
 refine mn _ (λrest r s'=>r.1=none/\s'=s/\∀v∈rest,carriedByValue v=true) _ ?_ ?_ _ _ ⟨rfl,rfl,hi.byValue⟩
 ·rintro v rest r s' ⟨hr,rfl,hall⟩
  rw[eqIsQuiet_byValue _ (hall v bp)]
  refine aa (ao ?_)
  simp only[jh,dk,if_false]
  exact ao ⟨rfl,rfl,λu hu'=>hall u (bf _ hu')⟩
 ·rintro⟨r1,r2⟩ s' ⟨hr,rfl,_⟩
  simp only at hr
  subst hr
  exact ao h
theorem aBc {k:List Int×Int}{a:Addr}{Q:Bool->Shared->Prop}(hk:IsPairKey P w s.heap k a)(h:Q true s):wpAny (model P w) A (AU 8 (.ref a)) Q E s:=by
 have hT:=hk.typeIs
 obtain⟨o,n,b,t,ho,_,hd,hi⟩:=hk
 unfold AU
 refine aa (ng hT ub.lookup ?_)
 show wpAny _ _ (isInstance (.ref a) (.type "tuple") >>= _) _ _ s
 refine aa (j6 hT rj ?_)
 simp only[jh,dk,if_false]
 refine aa (i5 ho hd ?_)
 refine aa ?_
 show wpAny _ _ (forIn #[Value.ref b,Value.int k.2 t] _ _) _ _ s
 rw[<- mz]
 show wpAny _ _ (forIn [Value.ref b,Value.int k.2 t] _ _) _ _ s
 rw[i4]
 refine aa (aa (aEi hi ?_))
 simp only[jh,dk,if_false]
 refine ao ?_
 show wpAny _ _ (forIn [Value.int k.2 t] _ _) _ _ s
 rw[i4,eqIsQuiet_byValue _ (v:=Value.int k.2 t) rfl]
 refine aa (aa (ao ?_))
 simp only[jh,dk,if_false]
 refine ao ?_
 show wpAny _ _ (forIn [] _ _) _ _ s
 rw[kg]
 exact ao (ao h)
def tV (P:Program) (w:World):HeapKind P w (List Int×Int) where
 is:=IsPairKey P w
 hash:=tO P w
 draws:=λk=>k.1.length+3
 room:=λA=>A.units+5<cLine
 inj:=λhx hy=>hx.inj hy
 keeps:=λx ho hd hs=>x.keeps ho hd hs
 pyHash:=λhu hk h=>yY hu hk h
 eqBool:=λhu hx hy h=>yX hu hx hy h
 quiet:=λhk h=>aBc hk h
end
abbrev PKy:=List Int×Int
abbrev PEs:=List (PKy×Addr×V)
def aKq (k:PKy):Int:=yt (ft [yt (ft (k.1.map Ae)),Ae k.2])
abbrev aKl (p:PKy×Addr×V) (q:PKy×Addr×Value):Prop:=p.1=q.1/\p.2.1=q.2.1/\RelV p.2.2 q.2.2
def dpP (a:Addr) (xs:PEs) (ep:Nat) (h:Heap):Prop:=xs.length<=bx/\(a == yq)=false/\∃ys:List (PKy×Addr×Value),Paired aKl xs ys /\
 ∃o es,h.get? a=some o/\o.ExactDict/\o.data = .dict es ep/\es.toList=ys.map (λy=>(⟨aKq y.1, .ref y.2.1,y.2.2⟩:DictEntry))/\(ys.map (·.1)).Nodup
def dpO (a:Addr) (xs:PEs) (ep:Nat):HO := .ext (dpP a xs ep)
def KeyP (H:Hp) (k:PKy) (c:Addr):Prop:=∃b,H c=some (.tup [.ref b, .int k.2])/\H b=some (.tup (k.1.map V.int))
def DP (H:Hp) (a:Addr) (xs:PEs) (ep:Nat):Prop:=H a=some (dpO a xs ep)/\∀x∈xs,KeyP H x.1 x.2.1
section
variable {P:Program}{w:World}{H:Hp}{h:Heap}{a c:Addr}{k:PKy}{xs:PEs}
theorem rA:∀{ns:List Int}{its:List Value},Vals (ns.map V.int) its->ItemsAre (fm P w) ns its
 |[],_, .nil => .nil
 |n :: ns,_, .cons r t=>by
  obtain⟨tk,rfl⟩:=r
  exact .cons (by show Value.isInt n (.int n tk)=true;unfold Value.isInt;exact beq_self_eq_true _) (rA t)
theorem KeyP.is (ok:HOk P w H h)(e:KeyP H k c):(tV P w).is h k c:=by
 obtain⟨b,e1,e2⟩:=e
 obtain⟨_,its,r,o,h1,h2,⟨n,h3⟩,_⟩:=(show ObjOk P w H h c (.tup [.ref b, .int k.2]) from ok c _ e1)
 obtain⟨_,its',r',o',h1',h2',⟨n',h3'⟩,_⟩:=(show ObjOk P w H h b (.tup (k.1.map V.int)) from ok b _ e2)
 obtain⟨u,v,rfl,ru,rv⟩:=r.two
 obtain rfl:u=Value.ref b:=ru
 obtain⟨t,rfl⟩:=rv
 exact⟨o,n,b,t,h1,h2,h3,o',its'.toArray,n',h1',h2',h3',by simpa using rA r'⟩
theorem DP.of {ep:Nat}(ok:HOk P w H h)(e:DP H a xs ep):xs.length<=bx/\(a == yq)=false/\∃ys,Paired aKl xs ys/\h.DictOfH (tV P w) a ys:=by
 obtain⟨z,y,ys,r,o,es,h1,h2,h3,h4,h5⟩:=(show dpP a xs ep h from(ok a _ e.1).1)
 refine⟨z,y,ys,r,o,es,ep,h1,h2,h3,h4,?_,h5⟩
 have all:∀{l:PEs}{m:List (PKy×Addr×Value)},Paired aKl l m->(∀x∈l,KeyP H x.1 x.2.1)->∀x∈m,(tV P w).is h x.1 x.2.1:=by
  intro l m q
  induction q with
  |nil=>intro _ x hx;exact nomatch hx
  | @cons p q ps qs hq t ih=>
   intro hk x hx
   rcases cm.mp hx with e | hx
   ·subst e
    have:=hk p (bp ..)
    rw[hq.1,hq.2.1] at this
    exact this.is ok
   ·exact ih (λx hx=>hk x (bf _ hx)) x hx
 exact all r e.2
end
def aLw (K:ae) (H:Hp) (k:PKy) (c:Addr):Prop:=∃b,SqT K H c [.ref b, .int k.2]/\SqT K H b (k.1.map V.int)
theorem KeyP.q {K:ae}{H:Hp}{k:PKy}{c:Addr}(e:KeyP H k c):aLw K H k c:=let⟨b,h1,h2⟩:=e;⟨b, .of h1, .of h2⟩
section
variable {X:Cx}{o i value:Expr}{pos pos':Pos}{td ty tv:TE}
end
end L2
namespace L2
open PySem PySem.Spec PyProof.Rows
section
variable {prog:Program}{w:World}{A:Around}{E:Value->Shared->Prop}{s:Shared}{d:Addr}{o:Obj}{es:Array DictEntry}{ep:Nat}
end
def OkN (P:Program) (w:World) (K:ae) (mg:Str->Option Value) (base:Heap) (x:Str) (st:Stmt) (k:Nat) (N ps:List Str) (T:TS):Prop:=
 ∀(f:Addr) (fd:FuncData) (sp:Sp),Fun K x x st f fd->(∀vs H Q E,sp vs H Q E->vs.length=ps.length)->(∀vs H Q E,sp vs H Q E->T { nx:=λ_ H'=>Q .non H',rt:=Q } (bR N vs) H)->FnOk P w K mg base CX0 k f fd ps sp
def OkX (P:Program) (w:World) (K:ae) (mg:Str->Option Value) (base:Heap) (x:Str) (st:Stmt) (k:Nat) (N ps:List Str) (T:XK->TS):Prop:=
 ∀(f:Addr) (fd:FuncData) (sp:Sp),Fun K x x st f fd->(∀vs H Q E,sp vs H Q E->vs.length=ps.length)->(∀vs H Q E,sp vs H Q E->T E { nx:=λ_ H'=>Q .non H',rt:=Q } (bR N vs) H)->FnOk P w K mg base (zI P w) k f fd ps sp
inductive FnIn (K:ae) (nm x:Str) (st:Stmt):Prop
 |mk {f:Addr}{od an:Option Addr}{sl:Array (Option Value)}{oc kV dc pm cd ct:Value} (a:dy K c7 nm=some (some (.ref f))) (l:K.lookup f=some ⟨oc,od, .func (jx x x (gB st) (eE st) (cB st) .none kV dc pm an cd ct),sl⟩) (c:ve K cd x=true) (k:n5 K (.ref f)=true):FnIn K nm x st
structure ZIn (K:ae):Prop where
 z0:dy K c7 "len" = some none
 z1:dy K c7 "all" = some none
 z2:dy K c7 "min" = some none
 z3:dy K c7 "max" = some none
 z4:dy K c7 "sum" = some none
 z5:dy K c7 "isinstance" = some none
 z6:dy K c7 "sorted" = some none
 z7:dy K c7 "tuple" = some none
 z8:dy K c7 "list" = some none
 z9:dy K c7 "range" = some none
 z10:dy K c7 "int" = some none
 z11:dy K c7 "bool" = some none
 z12:dy K c7 "zip" = some none
 z13:dy K c7 "repr" = some none
 z14:dy K c7 "enumerate" = some none
 z15:dy K c7 "reversed" = some none
 z16:dy K c7 "str" = some none
 z17:dy K c7 "set" = some none
 z18:dy K c7 "abs" = some none
def oW (g:Nat->Value):Nat->List Str->List Value
 |_,[]=>[]
 |i,_ :: ps=>g i :: oW g (i+1) ps
theorem aAV (g:Nat->Value):∀(ps:List Str) (us:List Value) (i:Nat),us.length=ps.length->(∀j,us.getD j .none=g (i+j))->us=oW g i ps
 |[],us,i,h,_=>mh.mp h
 |p :: ps,[],i,h,_=>by cases h
 |p :: ps,u :: us,i,h,q=>by
  show u :: us=g i :: oW g (i+1) ps
  rw[show g i=u from(q 0).symm,<- aAV g ps us (i+1) (Nat.succ.inj h) λj=>by rw[show i+1+j=i+(j+1) by omega,<- q (j+1)];rfl]
section
variable {P:Program}{w:World}{K:ae}{mg:Str->Option Value}{base h:Heap}{x nm:Str}{st:Stmt}{k:Nat}{N ps:List Str}{sp:Sp}
theorem okN {T:TS}(hb:∀(f:Addr) (cdv:Value) (A:Around) (outer:List Env) (s:Shared) (H:Hp) (E:XK),N.Nodup->Room k (A.deeper (xn x (cB st) s.heap.objs.size f cdv))->PSs (xT CX0 P w K mg base N x (cB st) f cdv A outer s H E).nox (eE st) T)
  (S:lE N ps (cB st):=by exact⟨rfl,rfl,rfl,by decide+kernel,rfl,by decide+kernel,by decide+kernel⟩):OkN P w K mg base x st (k+1) N ps T:=
 λf fd sp F len rd=>F.ok S len λcdv A outer s H vs Q E hr h=>⟨_,hb f cdv A outer s H E S.nd hr,rd vs H Q E h⟩
theorem okX {T:XK->TS}(hb:∀(f:Addr) (cdv:Value) (A:Around) (outer:List Env) (s:Shared) (H:Hp) (E:XK),N.Nodup->Room k (A.deeper (xn x (cB st) s.heap.objs.size f cdv))->PSs (xT (zI P w) P w K mg base N x (cB st) f cdv A outer s H E) (eE st) (T E))
  (S:lE N ps (cB st):=by exact⟨rfl,rfl,rfl,by decide+kernel,rfl,by decide+kernel,by decide+kernel⟩):OkX P w K mg base x st (k+1) N ps T:=
 λf fd sp F len rd=>F.okX S len λcdv A outer s H vs Q E hr h=>⟨_,hb f cdv A outer s H E S.nd hr,rd vs H Q E h⟩
theorem uL {f:Addr}{fd:FuncData}(F:Fun K x x st f fd)(b:∀(kV doc pm:Value) (an:Option Addr) (cdv ct:Value) (g:Nat->Value),yr (jx x x (gB st) (eE st) (cB st) .none kV doc pm an cdv ct) ⟨oW g 0 ps,[]⟩=pure (ps.zip (oW g 0 ps))):Binds K fd ps []:=
 F.binds λkV doc pm an cdv ct us hl=>by rw[aAV (λi=>us.getD i .none) ps us 0 hl λj=>by rw[Nat.zero_add]];exact b ..
theorem FnIn.dN {T:TS}(F:FnIn K nm x st)(P:Program)(w:World)(base:Heap)(X:K.In h)(G:h.Ns c7 mg)(o:OkN P w K mg base x st k N ps T)(rd:∀vs H Q E,sp vs H Q E->T { nx:=λ_ H'=>Q .non H',rt:=Q } (bR N vs) H)
  (len:∀vs H Q E,sp vs H Q E->vs.length=ps.length:=by(intro _ _ _ _ h;first | (cases h;subst_vars;rfl;done) | repeat (first | (obtain⟨rfl,_⟩:=h;rfl) | obtain⟨_,h⟩:=h)))
  (b:∀(kV doc pm:Value) (an:Option Addr) (cdv ct:Value) (g:Nat->Value),yr (jx x x (gB st) (eE st) (cB st) .none kV doc pm an cdv ct) ⟨oW g 0 ps,[]⟩=pure (ps.zip (oW g 0 ps)):=by intros;rfl):Def P w K mg base nm k ps sp:=by
 obtain⟨a,l,c,kk⟩:=F
 have F:=aAj l c kk
 exact⟨_,_,o _ _ _ F len rd,ka X G a,kk,uL F b⟩
theorem FnIn.dX {T:XK->TS}(F:FnIn K nm x st)(P:Program)(w:World)(base:Heap)(X:K.In h)(G:h.Ns c7 mg)(o:OkX P w K mg base x st k N ps T)(rd:∀vs H Q E,sp vs H Q E->T E { nx:=λ_ H'=>Q .non H',rt:=Q } (bR N vs) H)
  (len:∀vs H Q E,sp vs H Q E->vs.length=ps.length:=by(intro _ _ _ _ h;first | (cases h;subst_vars;rfl;done) | repeat (first | (obtain⟨rfl,_⟩:=h;rfl) | obtain⟨_,h⟩:=h)))
  (b:∀(kV doc pm:Value) (an:Option Addr) (cdv ct:Value) (g:Nat->Value),yr (jx x x (gB st) (eE st) (cB st) .none kV doc pm an cdv ct) ⟨oW g 0 ps,[]⟩=pure (ps.zip (oW g 0 ps)):=by intros;rfl):DefX P w K mg base nm k ps sp:=by
 obtain⟨a,l,c,kk⟩:=F
 have F:=aAj l c kk
 exact⟨_,_,o _ _ _ F len rd,ka X G a,kk,uL F b⟩
theorem FnIn.d0 (F:FnIn K nm x st)(X:K.In h)(G:h.Ns c7 mg)(no:∀vs H Q E,¬ sp vs H Q E)
  (b:∀(kV doc pm:Value) (an:Option Addr) (cdv ct:Value) (g:Nat->Value),yr (jx x x (gB st) (eE st) (cB st) .none kV doc pm an cdv ct) ⟨oW g 0 ps,[]⟩=pure (ps.zip (oW g 0 ps)):=by intros;rfl):Def P w K mg base nm k ps sp:=by
 obtain⟨a,l,c,kk⟩:=F
 have F:=aAj l c kk
 exact⟨_,_,⟨λ_ _ _ _ h=>(no _ _ _ _ h).elim,λ_ _ _ _ _ _ _ _ _ _ _ _ _ h=>(no _ _ _ _ h).elim⟩,ka X G a,kk,uL F b⟩
theorem FnIn.law {fa:Addr}{sp:Sp}(F:FnIn K "law" "law" st)(X:K.In h)(G:h.Ns c7 mg)(hfa:mg "law" = some (.ref fa)){T:TS}
  (o:∀base:Heap,OkN P w K mg base "law" st k N ["script"] T) (rd:∀vs H Q E,sp vs H Q E->T { nx:=λ_ H'=>Q .non H',rt:=Q } (bR N vs) H)
  (len:∀vs H Q E,sp vs H Q E->vs.length=1:=by(intro _ _ _ _ h;first | (cases h;subst_vars;rfl;done) | repeat (first | (obtain⟨rfl,_⟩:=h;rfl) | obtain⟨_,h⟩:=h)))
  (b:∀(kV doc pm:Value) (an:Option Addr) (cdv ct:Value) (v:Value),yr (jx "law" "law" (gB st) (eE st) (cB st) .none kV doc pm an cdv ct) ⟨[v],[]⟩=pure [(("script" : Str),v)]:=by intros;rfl) :
  ∃fd:FuncData,(∀(s:Shared) (v:Value),Ai s fd ⟨[v],[]⟩ [("script",v)])/\∀base:Heap,K.In base->base.Ns c7 mg->FnOk P w K mg base CX0 k fa fd ["script"] sp:=by
 obtain⟨a,l,c,kk⟩:=F
 have e:=hfa.symm.trans (ka X G a)
 cases e
 exact⟨_,λs v => .of_eq (b ..),λbase _ _=>o base _ _ _ (aAj l c kk) len rd⟩
theorem ZIn.blt (Z:ZIn K)(X:K.In h)(G:h.Ns c7 mg):aLo mg:=
 let m {x} (z:dy K c7 x=some none):=PySem.W.mg_none_of X G z
 ⟨⟨⟨⟨m Z.z0,m Z.z1,m Z.z2,m Z.z3,m Z.z4,m Z.z5,m Z.z6,m Z.z7,m Z.z8,m Z.z9,m Z.z10,m Z.z11⟩,m Z.z12,m Z.z13,m Z.z14,m Z.z15,m Z.z16⟩,m Z.z17⟩,m Z.z18⟩
end
end L2
namespace L2
open PySem
theorem cM {H H':Hp}{p:Addr}{o:HO}(h:H p=none)(s:Same H H'):Same H (upd H' p o):=λb u e=>by rw[bC (bK e h)];exact s _ _ e
section
variable {K:ae}
end
open PySem.SeqAt
section
variable {X:Cx}
end
end L2
namespace L2
open PySem PySem.W PyProof.Rows
section
variable (r:Nat->Int)
def rlt (i j:Nat):Bool:=decide (r i<r j)
def bF {α:Type}:KasT α->α
 | .ret a=>a
 | .ask i j k=>bF (k (rlt r i j))
theorem eK {α β:Type}{f:α->KasT β}:∀t:KasT α,bF r (t.bind f)=bF r (f (bF r t))
 | .ret _=>rfl
 | .ask i j k=>by
  show bF r ((k (rlt r i j)).bind f)=_
  exact eK (k (rlt r i j))
def Kr (p:Array Nat) (i:Nat):Int:=r (p.getD i 0)
def Srt (p:Array Nat) (n:Nat):Prop:=∀i j,i<=j->j<n->Kr r p i<=Kr r p j
def Dsc (p:Array Nat) (n:Nat):Prop:=∀i j,i<=j->j<n->Kr r p j<=Kr r p i
variable {r}
theorem kF {p q:Array Nat}{i j:Nat}(h:p[i]?=q[j]?):Kr r p i=Kr r q j:=by
 unfold Kr
 rw[cq,cq,h]
theorem aCw {p:Array Nat}{a b:Nat}(h:Kr r p a<Kr r p b):rlt r (p.getD a 0) (p.getD b 0)=true:=decide_eq_true h
theorem aDo {p:Array Nat}{a b:Nat}(h:¬ Kr r p a<Kr r p b):¬ rlt r (p.getD a 0) (p.getD b 0)=true:=λe=>h (of_decide_eq_true e)
theorem aFP {p:Array Nat}{i j:Nat}(hj:j<=p.size)(k:Nat):Kr r (rl p i j) k=if i<=k/\k<j then Kr r p (i+j - 1 - k) else Kr r p k:=by
 have:=getElem?_mirror_all (i:=i) hj k
 by_cases c:i<=k/\k<j
 ·rw[if_pos c] at this ⊢;exact kF this
 ·rw[if_neg c] at this ⊢;exact kF this
theorem aJM {p:Array Nat}{src d:Nat}(hs:src<p.size)(hd:d<=src)(k:Nat):Kr r (bubble p src d) k=if k=src - d then Kr r p src else if src - d<k/\k<=src then Kr r p (k - 1) else Kr r p k:=by
 have:=getElem?_bubble hs d hd k
 by_cases c:k=src - d
 ·rw[if_pos c] at this ⊢;exact kF this
 ·rw[if_neg c] at this ⊢
  by_cases e:src - d<k/\k<=src
  ·rw[if_pos e] at this ⊢;exact kF this
  ·rw[if_neg e] at this ⊢;exact kF this
theorem fF (p:Array Nat)(i j:Nat):(rl p i j).Perm p:=mirror_perm _ _ _ _
theorem yO {p:Array Nat}:∀f n,1<=n->Srt r p n->n<=bF r (wt p f n)/\bF r (wt p f n)<=n+f/\Srt r p (bF r (wt p f n))/\(bF r (wt p f n)<n+f->Kr r p (bF r (wt p f n))<Kr r p (bF r (wt p f n) - 1))
 |0,n,h1,hs=>⟨ba _,ba _,hs,λh=>absurd h (kx _)⟩
 |f+1,n,h1,hs=>by
  have e:bF r (wt p (f+1) n)=bF r (if rlt r (p.getD n 0) (p.getD (n - 1) 0)=true then .ret n else wt p f (n+1)):=rfl
  rw[e]
  by_cases c:Kr r p n<Kr r p (n - 1)
  ·rw[if_pos (aCw c)]
   exact⟨ba _,i9 _ _,hs,λ_=>c⟩
  ·rw[if_neg (aDo c)]
   obtain⟨a1,a2,a3,a4⟩:=yO (p:=p) f (n+1) (by omega) λi j hij hj=>by
    by_cases e1:j=n
    ·subst e1
     by_cases e2:i=j
     ·subst e2;omega
     ·have:=hs i (j - 1) (by omega) (by omega);omega
    ·exact hs i j hij (by omega)
   exact⟨by omega,by omega,a3,λh=>a4 (by omega)⟩
theorem sL {p:Array Nat}{i j:Nat}(hj:j<=p.size)(h:∀k,i<=k->k<j->Kr r p k=Kr r p (j - 1))(k:Nat):Kr r (rl p i j) k=Kr r p k:=by
 rw[aFP hj]
 split
 ·next c=>rw[h _ (by omega) (by omega),h k c.1 c.2]
 ·rfl
theorem oB:∀f (p:Array Nat) n q,1<=n->n+f<=p.size->q<n->Dsc r p n->(∀i,n - (q+1)<=i->i<n->Kr r p i=Kr r p (n - 1))->∀R,R=bF r (u7 f p n q) ->
  R.1.size=p.size/\R.1.Perm p/\n<=R.2.1/\R.2.1<=n+f/\R.2.2<R.2.1/\Dsc r R.1 R.2.1/\∀i,R.2.1 - (R.2.2+1)<=i->i<R.2.1->Kr r R.1 i=Kr r R.1 (R.2.1 - 1)
 |0,p,n,q,h1,hz,hq,hd,he,R,hR=>by subst hR;exact⟨rfl,qf _,ba _,ba _,hq,hd,he⟩
 |f+1,p,n,q,h1,hz,hq,hd,he,R,hR=>by
  have e:bF r (u7 (f+1) p n q)=bF r (if rlt r (p.getD n 0) (p.getD (n - 1) 0)=true then(if q > 0 then u7 f (rl p (n - (q+1)) n) (n+1) 0 else u7 f p (n+1) 0) else .ask (p.getD (n - 1) 0) (p.getD n 0) λd=>if d=true then .ret (p,n,q) else u7 f p (n+1) (q+1)):=rfl
  rw[e] at hR
  by_cases c:Kr r p n<Kr r p (n - 1)
  ·rw[if_pos (aCw c)] at hR
   have hd1:Dsc r p (n+1):=λi j hij hj=>by
    by_cases e1:j=n
    ·subst e1
     by_cases e2:i=j
     ·subst e2;omega
     ·have:=hd i (j - 1) (by omega) (by omega);omega
    ·exact hd i j hij (by omega)
   by_cases c2:q > 0
   ·rw[if_pos c2] at hR
    have kk:=λk=>sL (r:=r) (p:=p) (i:=n - (q+1)) (j:=n) (by omega) he k
    have sz:(rl p (n - (q+1)) n).size=p.size:=zj _ _ _ _
    obtain⟨a1,a2,a3,a4,a5,a6,a7⟩:=oB f (rl p (n - (q+1)) n) (n+1) 0 (by omega) (by rw[sz];omega) (by omega) (λi j hij hj=>by rw[kk,kk];exact hd1 i j hij hj) (λi h2 h3=>by rw[show i=n by omega];rfl) R hR
    exact⟨a1.trans sz,a2.trans (fF _ _ _),by omega,by omega,a5,a6,a7⟩
   ·rw[if_neg c2] at hR
    obtain⟨a1,a2,a3,a4,a5,a6,a7⟩:=oB f p (n+1) 0 (by omega) (by omega) (by omega) hd1 (λi h2 h3=>by rw[show i=n by omega];rfl) R hR
    exact⟨a1,a2,by omega,by omega,a5,a6,a7⟩
  ·rw[if_neg (aDo c)] at hR
   have e2:bF r (KasT.ask (p.getD (n - 1) 0) (p.getD n 0) λd=>if d=true then .ret (p,n,q) else u7 f p (n+1) (q+1))=bF r (if rlt r (p.getD (n - 1) 0) (p.getD n 0)=true then .ret (p,n,q) else u7 f p (n+1) (q+1)):=rfl
   rw[e2] at hR
   by_cases d:Kr r p (n - 1)<Kr r p n
   ·rw[if_pos (aCw d)] at hR
    subst hR
    exact⟨rfl,qf _,ba _,i9 _ _,hq,hd,he⟩
   ·rw[if_neg (aDo d)] at hR
    obtain⟨a1,a2,a3,a4,a5,a6,a7⟩:=oB f p (n+1) (q+1) (by omega) (by omega) (by omega) (λi j hij hj=>by
     by_cases e1:j=n
     ·subst e1
      by_cases e2:i=j
      ·subst e2;omega
      ·have:=hd i (j - 1) (by omega) (by omega);omega
     ·exact hd i j hij (by omega)) (λi h2 h3=>by
     show Kr r p i=Kr r p n
     by_cases e1:i=n
     ·rw[e1]
     ·have:=he i (by omega) (by omega);omega) R hR
    exact⟨a1,a2,by omega,by omega,a5,a6,a7⟩
def aDG (r:Nat->Int) (nrem n:Nat) (p:Array Nat) (R:Nat×Array Nat):Prop:=R.2.size=p.size/\R.2.Perm p/\n<=R.1/\R.1<=nrem/\Srt r R.2 R.1
theorem vO {n nrem:Nat}{p:Array Nat}(h1:1<=n)(hn:n<=nrem)(hz:nrem<=p.size)(hd:Dsc r p n):aDG r nrem n p (bF r (AV n nrem p)):=by
 unfold AV
 rw[eK]
 have hs:Srt r (rl p 0 n) n:=λi j hij hj=>by
  rw[aFP (by omega),aFP (by omega),if_pos ⟨by omega,by omega⟩,if_pos ⟨by omega,hj⟩]
  exact hd _ _ (by omega) (by omega)
 obtain⟨a1,a2,a3,_⟩:=yO (p:=rl p 0 n) (nrem - n) n h1 hs
 exact⟨zj _ _ _ _,fF _ _ _,a1,by show bF r _<=_;omega,a3⟩
theorem mQ {n nrem:Nat}{p:Array Nat}(hn:n+1<=nrem)(hz:nrem<=p.size)(hd:Dsc r p (n+1)):aDG r nrem 1 p (bF r (u9 n nrem p)):=by
 unfold u9
 rw[eK]
 obtain⟨a1,a2,a3,a4,a5,a6,a7⟩:=oB (nrem - (n+1)) p (n+1) 0 (by omega) (by omega) (by omega) hd (λi h2 h3=>by rw[show i=n by omega];rfl) _ rfl
 generalize bF r (u7 (nrem - (n+1)) p (n+1) 0)=R at a1 a2 a3 a4 a5 a6 a7 ⊢
 by_cases c:R.2.2 > 0
 ·rw[if_pos c]
  have kk:=λk=>sL (r:=r) (p:=R.1) (i:=R.2.1 - (R.2.2+1)) (j:=R.2.1) (by omega) a7 k
  have sz:(rl R.1 (R.2.1 - (R.2.2+1)) R.2.1).size=R.1.size:=zj _ _ _ _
  obtain⟨b1,b2,b3,b4,b5⟩:=vO (r:=r) (n:=R.2.1) (nrem:=nrem) (p:=rl R.1 (R.2.1 - (R.2.2+1)) R.2.1) (by omega) (by omega) (by rw[sz];omega) λi j hij hj=>by rw[kk,kk];exact a6 i j hij hj
  exact⟨b1.trans (sz.trans a1),b2.trans ((fF _ _ _).trans a2),by omega,b4,b5⟩
 ·rw[if_neg c]
  obtain⟨b1,b2,b3,b4,b5⟩:=vO (r:=r) (n:=R.2.1) (nrem:=nrem) (p:=R.1) (by omega) (by omega) (by omega) a6
  exact⟨b1.trans a1,b2.trans a2,by omega,b4,b5⟩
theorem aDh {nrem:Nat}{p:Array Nat}(h1:1<=nrem)(hz:nrem<=p.size):aDG r nrem 1 p (bF r (Ab nrem p)):=by
 unfold Ab
 rw[eK]
 obtain⟨a1,a2,a3,a4⟩:=yO (r:=r) (p:=p) (nrem - 1) 1 (ba _) λi j hij hj=>by rw[show i=j by omega];omega
 generalize bF r (wt p (nrem - 1) 1)=n at a1 a2 a3 a4 ⊢
 by_cases c:(n == nrem)=true
 ·rw[if_pos c]
  exact⟨rfl,qf _,a1,by show n<=nrem;omega,a3⟩
 ·rw[if_neg c]
  have cn:n≠nrem:=λe=>c (by rw[e];exact beq_self_eq_true _)
  have lt:=a4 (by omega)
  by_cases d:n > 1
  ·rw[if_pos d]
   show aDG r nrem 1 p (bF r (if rlt r (p.getD 0 0) (p.getD (n - 1) 0)=true then .ret (n,p) else u9 n nrem (rl p 0 n)))
   by_cases e:Kr r p 0<Kr r p (n - 1)
   ·rw[if_pos (aCw e)]
    exact⟨rfl,qf _,a1,by show n<=nrem;omega,a3⟩
   ·rw[if_neg (aDo e)]
    have eq:∀k,0<=k->k<n->Kr r p k=Kr r p (n - 1):=λk _ hk=>by
     have g1:=a3 0 k (by omega) hk
     have g2:=a3 k (n - 1) (by omega) (by omega)
     omega
    have kk:=λk=>sL (r:=r) (p:=p) (i:=0) (j:=n) (by omega) eq k
    have sz:(rl p 0 n).size=p.size:=zj _ _ _ _
    obtain⟨b1,b2,b3,b4,b5⟩:=mQ (r:=r) (n:=n) (nrem:=nrem) (p:=rl p 0 n) (by omega) (by rw[sz];omega) λi j hij hj=>by
     rw[kk,kk]
     by_cases e1:j=n
     ·subst e1
      by_cases e2:i=j
      ·subst e2;omega
      ·have:=eq i (by omega) (by omega);omega
     ·have g1:=eq i (by omega) (by omega)
      have g2:=eq j (by omega) (by omega)
      omega
    exact⟨b1.trans sz,b2.trans (fF _ _ _),b3,b4,b5⟩
  ·rw[if_neg d]
   refine mQ (by omega) hz λi j hij hj=>?_
   have:n=1:=by omega
   subst this
   by_cases e2:i=j
   ·subst e2;omega
   ·rw[show i=0 by omega,show j=1 by omega]
    exact k4 lt
theorem pC {p:Array Nat}{k:Nat}(hs:Srt r p k):∀f l q,l<=q->q<=k->q - l<=f->(∀i,i<l->Kr r p i<=Kr r p k)->(∀i,q<=i->i<k->Kr r p k<Kr r p i) ->
  ∀m,m=bF r (oo p k f l q)->m<=k/\(∀i,i<m->Kr r p i<=Kr r p k)/\∀i,m<=i->i<k->Kr r p k<Kr r p i
 |0,l,q,h1,h2,h3,ha,hb,m,hm=>by
  obtain rfl:m=l:=hm
  exact⟨by omega,ha,λi hi hk=>hb i (by omega) hk⟩
 |f+1,l,q,h1,h2,h3,ha,hb,m,hm=>by
  have e:bF r (oo p k (f+1) l q)=bF r (if l≥q then .ret l else .ask (p.getD k 0) (p.getD ((l+q) / 2) 0) λc=>if c=true then oo p k f l ((l+q) / 2) else oo p k f ((l+q) / 2+1) q):=rfl
  rw[e] at hm
  by_cases c:l≥q
  ·rw[if_pos c] at hm
   obtain rfl:m=l:=hm
   exact⟨by omega,ha,λi hi hk=>hb i (by omega) hk⟩
  ·rw[if_neg c] at hm
   have e2:bF r (KasT.ask (p.getD k 0) (p.getD ((l+q) / 2) 0) λc=>if c=true then oo p k f l ((l+q) / 2) else oo p k f ((l+q) / 2+1) q)=bF r (if rlt r (p.getD k 0) (p.getD ((l+q) / 2) 0)=true then oo p k f l ((l+q) / 2) else oo p k f ((l+q) / 2+1) q):=rfl
   rw[e2] at hm
   by_cases d:Kr r p k<Kr r p ((l+q) / 2)
   ·rw[if_pos (aCw d)] at hm
    exact pC hs f l ((l+q) / 2) (by omega) (by omega) (by omega) ha (λi hi hk=>by have:=hs ((l+q) / 2) i hi hk;omega) m hm
   ·rw[if_neg (aDo d)] at hm
    exact pC hs f ((l+q) / 2+1) q (by omega) h2 (by omega) (λi hi=>by have:=hs i ((l+q) / 2) (by omega) (by omega);omega) hb m hm
theorem aCp:∀f (p:Array Nat) k,k+f<=p.size->Srt r p k->(bF r (AW f p k)).Perm p/\(bF r (AW f p k)).size=p.size/\Srt r (bF r (AW f p k)) (k+f)
 |0,p,k,hz,hs=>⟨qf _,rfl,hs⟩
 |f+1,p,k,hz,hs=>by
  have e:bF r (AW (f+1) p k)=bF r (AW f (bubble p k (k - bF r (oo p k k 0 k))) (k+1)):=eK (r:=r) _
  rw[e]
  obtain⟨a1,a2,a3⟩:=pC hs k 0 k (by omega) (by omega) (by omega) (λi hi=>by omega) (λi h1 h2=>by omega) _ rfl
  generalize bF r (oo p k k 0 k)=l at a1 a2 a3 ⊢
  have sz:(bubble p k (k - l)).size=p.size:=bubble_size _ _ _
  have kb:=λi=>aJM (r:=r) (p:=p) (src:=k) (d:=k - l) (by omega) (by omega) i
  obtain⟨b1,b2,b3⟩:=aCp f (bubble p k (k - l)) (k+1) (by rw[sz];omega) λi j hij hj=>by
   rw[kb,kb]
   have g1:∀i,i<l->Kr r p i<=Kr r p k:=a2
   have g2:∀i,l<=i->i<k->Kr r p k<Kr r p i:=a3
   by_cases i1:i=k - (k - l) <;> by_cases j1:j=k - (k - l)
   ·rw[if_pos i1,if_pos j1];omega
   ·rw[if_pos i1,if_neg j1,if_pos ⟨by omega,by omega⟩]
    exact k4 (g2 _ (by omega) (by omega))
   ·rw[if_neg i1,if_pos j1,if_neg (by omega)]
    exact g1 i (by omega)
   ·rw[if_neg i1,if_neg j1]
    by_cases i2:k - (k - l)<i/\i<=k
    ·rw[if_pos i2,if_pos ⟨by omega,by omega⟩]
     exact hs _ _ (by omega) (by omega)
    ·rw[if_neg i2]
     by_cases j2:k - (k - l)<j/\j<=k
     ·rw[if_pos j2]
      exact hs _ _ (by omega) (by omega)
     ·rw[if_neg j2]
      exact hs _ _ hij (by omega)
  exact⟨b1.trans (bubble_perm _ _ _),b2.trans sz,by rw[show k+(f+1)=k+1+f by omega];exact b3⟩
theorem aAK {n:Nat}(h1:1<=n):(bF r (k7 n)).Perm (je (aq n))/\(bF r (k7 n)).size=n/\Srt r (bF r (k7 n)) n:=by
 unfold k7
 rw[eK]
 have hz:(je (aq n)).size=n:=by simp
 obtain⟨a1,a2,a3,a4,a5⟩:=aDh (r:=r) (nrem:=n) (p:=je (aq n)) h1 (by omega)
 generalize bF r (Ab n (je (aq n)))=R at a1 a2 a3 a4 a5 ⊢
 by_cases c:R.1<n
 ·rw[if_pos c]
  obtain⟨b1,b2,b3⟩:=aCp (r:=r) (n - max R.1 1) R.2 (max R.1 1) (by omega) (by rw[show max R.1 1=R.1 by omega];exact a5)
  exact⟨b1.trans a2,by omega,by rw[show max R.1 1+(n - max R.1 1)=n by omega] at b3;exact b3⟩
 ·rw[if_neg c]
  exact⟨a2,by show R.2.size=n;omega,by rw[show R.1=n by omega] at a5;exact a5⟩
end
section
variable {N:Nat}
def Bnd (N:Nat) (p:Array Nat):Prop:=∀k,p.getD k 0<N
theorem Bnd.perm {p q:Array Nat}(hN:0<N)(h:Bnd N p)(e:q.Perm p):Bnd N q:=λk=>by
 rw[cq]
 by_cases c:k<q.size
 ·rw[b8 c]
  have hm:q[k]∈p:=e.mem_iff.mp (vy c)
  obtain⟨i,hi,e2⟩:=Array.getElem_of_mem hm
  have:=h i
  rw[cq,b8 hi] at this
  show q[k]<N
  rw[<- e2]
  exact this
 ·rw[gk (by omega)]
  exact hN
def AskP (N:Nat) {α:Type} (P:α->Prop):KasT α->Prop
 | .ret a=>P a
 | .ask i j k=>i<N/\j<N/\∀b,AskP N P (k b)
theorem AskP.bind {α β:Type}{f:α->KasT β}{P:α->Prop}{Q:β->Prop}(hf:∀a,P a->AskP N Q (f a)):∀t:KasT α,AskP N P t->AskP N Q (t.bind f)
 | .ret a,h=>hf a h
 | .ask i j k,h=>⟨h.1,h.2.1,λb=>AskP.bind hf (k b) (h.2.2 b)⟩
theorem AskP.ite {α:Type}{P:α->Prop}{c:Prop}[Decidable c]{t u:KasT α}(h1:c->AskP N P t)(h2:¬ c->AskP N P u):AskP N P (if c then t else u):=by
 by_cases h:c
 ·rw[if_pos h];exact h1 h
 ·rw[if_neg h];exact h2 h
theorem zR {p:Array Nat}(hb:Bnd N p):∀f n,AskP N (λ_=>True) (wt p f n)
 |0,n=>trivial
 |f+1,n=>⟨hb _,hb _,λb=>AskP.ite (λ_=>trivial) λ_=>zR hb f (n+1)⟩
theorem nZ (hN:0<N):∀f (p:Array Nat) n q,Bnd N p->AskP N (λR=>Bnd N R.1) (u7 f p n q)
 |0,p,n,q,hb=>hb
 |f+1,p,n,q,hb=>⟨hb _,hb _,λb=>AskP.ite (λ_=>AskP.ite (λ_=>nZ hN f _ _ _ (hb.perm hN (fF _ _ _))) λ_=>nZ hN f _ _ _ hb) λ_=>⟨hb _,hb _,λd=>AskP.ite (λ_=>hb) λ_=>nZ hN f _ _ _ hb⟩⟩
theorem vW (hN:0<N){n nrem:Nat}{p:Array Nat}(hb:Bnd N p):AskP N (λR:Nat×Array Nat=>Bnd N R.2) (AV n nrem p):=by
 unfold AV
 refine AskP.bind (P:=λ_=>True) (λa _=>?_) _ (zR (hb.perm hN (fF _ _ _)) _ _)
 exact hb.perm hN (fF _ _ _)
theorem mV (hN:0<N){n nrem:Nat}{p:Array Nat}(hb:Bnd N p):AskP N (λR:Nat×Array Nat=>Bnd N R.2) (u9 n nrem p):=by
 unfold u9
 refine AskP.bind (λR hR=>?_) _ (nZ hN _ _ _ _ hb)
 exact AskP.ite (λ_=>vW hN (Bnd.perm hN hR (fF _ _ _))) λ_=>vW hN hR
theorem aCP (hN:0<N){nrem:Nat}{p:Array Nat}(hb:Bnd N p):AskP N (λR:Nat×Array Nat=>Bnd N R.2) (Ab nrem p):=by
 unfold Ab
 refine AskP.bind (P:=λ_=>True) (λn _=>?_) _ (zR hb _ _)
 refine AskP.ite (λ_=>?_) λ_=>AskP.ite (λ_=>⟨hb _,hb _,λc=>AskP.ite (λ_=>?_) λ_=>mV hN (hb.perm hN (fF _ _ _))⟩) λ_=>mV hN hb
 ·exact hb
 ·exact hb
theorem pL {p:Array Nat}{k:Nat}(hb:Bnd N p):∀f l q,AskP N (λ_=>True) (oo p k f l q)
 |0,l,q=>trivial
 |f+1,l,q=>AskP.ite (λ_=>trivial) λ_=>⟨hb _,hb _,λc=>AskP.ite (λ_=>pL hb f _ _) λ_=>pL hb f _ _⟩
theorem aDk (hN:0<N):∀f (p:Array Nat) k,Bnd N p->AskP N (λ_=>True) (AW f p k)
 |0,p,k,hb=>trivial
 |f+1,p,k,hb=>AskP.bind (λl _=>aDk hN f _ _ (hb.perm hN (bubble_perm _ _ _))) _ (pL hb _ _ _)
theorem aAE (hN:0<N):AskP N (λ_=>True) (k7 N):=by
 have hb:Bnd N (je (aq N)):=λk=>by
  rw[cq]
  by_cases c:k<N
  ·simp[c]
  ·simp[c,hN]
 unfold k7
 refine AskP.bind (λR hR=>?_) _ (aCP hN hb)
 refine AskP.ite (λ_=>aDk hN _ _ _ hR) λ_=>?_
 exact trivial
theorem aDs {r:Nat->Int}{cmp:Nat->Nat->(Bool->Shared->Prop)->Shared->Prop}{s:Shared}(hc:∀i j C,i<N->j<N->C (rlt r i j) s->cmp i j C s){α:Type}{P:α->Prop}{Q:α->Shared->Prop}:∀t:KasT α,AskP N P t->Q (bF r t) s->t.kasWp cmp Q s
 | .ret a,_,h=>h
 | .ask i j k,ha,h=>hc i j _ ha.1 ha.2.1 (aDs hc (k (rlt r i j)) (ha.2.2 _) h)
end
theorem aAt:∀{a b:List Int},lexL a b=false->lexL b a=false->a=b
 |[],[],_,_=>rfl
 |[],_ :: _,h,_=>by cases h
 |_ :: _,[],_,h=>by cases h
 |x :: a,y :: b,h1,h2=>by
  rw[lexL] at h1 h2
  by_cases e:x=y
  ·subst e
   rw[if_pos rfl] at h1 h2
   rw[aAt h1 h2]
  ·rw[if_neg e] at h1
   rw[if_neg (iw e)] at h2
   have g1:=of_decide_eq_false h1
   have g2:=of_decide_eq_false h2
   omega
def nJ (R:List (List Int)) (i:Nat):Int:=((R.countP λq=>lexL q (R.getD i [])):Nat)
theorem vD {p q:List Int->Bool}:∀{l:List (List Int)},(∀x∈l,p x=true->q x=true)->(∃x∈l,p x=false/\q x=true)->l.countP p<l.countP q
 |[],_,⟨_,h,_⟩=>by cases h
 |a :: l,h,⟨x,hx,h1,h2⟩=>by
  have mono:l.countP p<=l.countP q:=xx λx hx=>h x (bf _ hx)
  rw[List.countP_cons,List.countP_cons]
  rcases cm.mp hx with e | hx
  ·subst e
   rw[h1,h2]
   simp
   omega
  ·have ih:=vD (λx hx=>h x (bf _ hx)) ⟨x,hx,h1,h2⟩
   have ha:=h a (bp ..)
   cases e1:p a with
   |false=>simp;split <;> omega
   |true=>rw[ha e1];simp;omega
theorem lK {R:List (List Int)}{i j:Nat}(hi:i<R.length)(hj:j<R.length):(nJ R i<nJ R j)↔lexL (R.getD i []) (R.getD j [])=true:=by
 have mem:∀k,k<R.length->R.getD k []∈R:=λk hk=>by
  rw[ak,ah hk];exact f6 hk
 unfold nJ
 constructor
 ·intro h
  cases e:lexL (R.getD i []) (R.getD j []) with
  |true=>rfl
  |false=>
   exfalso
   have:R.countP (λq=>lexL q (R.getD j []))<=R.countP (λq=>lexL q (R.getD i [])):=xx λx _ hx=>by
    cases e2:lexL (R.getD j []) (R.getD i []) with
    |true=>exact lL hx e2
    |false=>rw[aAt e e2];exact hx
   omega
 ·intro h
  have:=vD (l:=R) (p:=λq=>lexL q (R.getD i [])) (q:=λq=>lexL q (R.getD j [])) (λx _ hx=>lL hx h) ⟨_,mem i hi,kP _,h⟩
  omega
def TupsAt (h:Heap) (vs:List Value) (R:List (List Int)):Prop:=vs.length=R.length/\∀(i:Nat) (row:List Int),R[i]?=some row->∃x us,vs[i]?=some (.ref x)/\IsTup h x us.toArray/\IntsAre us row
section
variable {prog:Program}{w:World}{A:Around}{E:Value->Shared->Prop}{s:Shared}
theorem aFt {fin:Bool}{Q:Bool->Shared->Prop}:∀{us vs:List Value}{ns ms:List Int} (i:Nat),IntsAre us ns->IntsAre vs ms->Q (aAS fin (ns.zip ms)) s->KatLex prog w A true fin Q (us.zip vs) i s
 |[],_,_,_,i, .nil,_,h=>by rw[List.zip_nil_left];exact kat_nil (by simpa[aAS] using h)
 |_ :: _,[],_,_,i, .cons _ _ _, .nil,h=>by rw[List.zip_nil_right];exact kat_nil (by simpa[aAS] using h)
 |_ :: us,_ :: vs,_ :: ns,_ :: ms,i, .cons n t h1, .cons m u h2,h=>by
  rw[my,aAS] at h
  rw[my]
  refine kat_cons (uv n t m u prog w _ _ ?_)
  by_cases c:n=m
  ·rw[if_pos c] at h
   rw[show(n == m)=true from by rw[c];exact beq_self_eq_true _]
   exact kat_yes (aFt (i+1) h1 h2 h)
  ·rw[if_neg c] at h
   rw[show(n == m)=false from beq_false_of_ne c]
   refine kat_no ?_
   by_cases z:i=0
   ·subst z
    exact oneLt_int h
   ·rw[show(true && i == 0)=false by simp[z]]
    exact kat_one _ _ (vI h)
theorem aGy {vs:List Value}{R:List (List Int)}(hv:TupsAt s.heap vs R){i j:Nat}{C:Bool->Shared->Prop}(hi:i<R.length)(hj:j<R.length)(h:C (rlt (nJ R) i j) s):kas_ask prog w A (zk true) vs i j C s:=by
 have at':∀k,k<R.length->∃x us,vs.getD k Value.none = .ref x/\IsTup s.heap x us.toArray/\IntsAre us (R.getD k []):=λk hk=>by
  obtain⟨x,us,e1,e2,e3⟩:=hv.2 k R[k] (ah hk)
  refine⟨x,us,by rw[ak,e1];rfl,e2,?_⟩
  rw[ak,ah hk]
  exact e3
 obtain⟨x,us,e1,⟨ox,a1,_,n1,d1⟩,b1⟩:=at' i hi
 obtain⟨y,vs',e2,⟨oy,a2,_,n2,d2⟩,b2⟩:=at' j hj
 show wpAny (model prog w) A (keyLt' (zk true) (vs.getD i Value.none) (vs.getD j Value.none)) C (λ_ _=>False) s
 rw[e1,e2]
 refine kat_lt a1 d1 a2 d2 ?_
 have hl1:us.length=(R.getD i []).length:=IntsAre.len b1
 have hl2:vs'.length=(R.getD j []).length:=IntsAre.len b2
 have e:rlt (nJ R) i j=aAS (decide (us.toArray.size<vs'.toArray.size)) ((R.getD i []).zip (R.getD j [])):=by
  rw[ar,ar,hl1,hl2,yH]
  unfold rlt
  by_cases c:lexL (R.getD i []) (R.getD j [])=true
  ·rw[c];exact decide_eq_true ((lK hi hj).mpr c)
  ·rw[dq _ |>.mp c];exact decide_eq_false λz=>c ((lK hi hj).mp z)
 exact aFt 0 b1 b2 (by rw[<- e];exact h)
theorem kJ {h:Heap}:∀{vs:List Value}{R:List (List Int)},TupsAt h vs R->(∀q∈R,q≠[])->∃fs,KatTups h vs fs/\fs.length=R.length/\∀v∈fs,∃i t,v = .int i t
 |[],[],_,_=>⟨[],trivial,rfl,λ_ z=>by cases z⟩
 |[],_ :: _,hv,_=>by cases hv.1
 |_ :: _,[],hv,_=>by cases hv.1
 |v :: vs,q :: R,hv,hne=>by
  obtain⟨x,us,e1,⟨o,a1,a2,n,a3⟩,b⟩:=hv.2 0 q rfl
  obtain⟨fs,k,l,f⟩:=kJ (vs:=vs) (R:=R) ⟨by simpa using hv.1,λi row hr=>hv.2 (i+1) row hr⟩ λq hq=>hne q (bf _ hq)
  obtain rfl:v = .ref x:=by simpa using e1
  cases b with
  |nil=>exact absurd rfl (hne [] (bp ..))
  |cons m t r=>
   exact⟨.int m t :: fs,⟨⟨x,o,_,n,rfl,a1,a2,a3,rfl⟩,k⟩,by simp[l],λv hv'=>by
    rcases cm.mp hv' with e | hv'
    ·exact⟨m,t,e⟩
    ·exact f v hv'⟩
theorem TupsAt.keep {h h':Heap}{vs:List Value}{R:List (List Int)}(hv:TupsAt h vs R)(k:∀x us,IsTup h x us->IsTup h' x us):TupsAt h' vs R:=
 ⟨hv.1,λi row hr=>by obtain⟨x,us,e1,e2,e3⟩:=hv.2 i row hr;exact⟨x,us,e1,k _ _ e2,e3⟩⟩
def Put (R:List (List Int)) (p:Array Nat):Prop:=p.Perm (je (aq R.length))/\∀i j,i<=j->j<R.length->lexL (R.getD (p.getD j 0) []) (R.getD (p.getD i 0) [])=false
theorem tX {a:Addr}{vs:List Value}{n:Nat}{R:List (List Int)}{P:Fin->Shared->Prop}(ho:s.heap.get? a=some (jw "list" vs.toArray n))(hv:TupsAt s.heap vs R)(hne:∀q∈R,q≠[])(h64:vs.length<64)
  (h:∀p,Put R p->P (.done (.ret .none)) { s with heap:=Aq s.heap a vs (je (p.toList.map λi=>vs.getD i Value.none)) }):wpAny (model prog w) A (Builtin.«list.sort» ⟨[.ref a],[]⟩) P E s:=by
 have ha:=bj ho
 have hz:vs.length<=bx:=by rw[jt];omega
 obtain⟨e1,ho1⟩:∃e1,(s.heap.update a (jz λ_=>#[])).get? a=some (jw "list" #[] e1):=⟨_,xt ho λ_=>#[]⟩
 rw[list_sort_plain]
 refine aa (xr ho rfl (aa (su ho rfl ?g1 (by rw[ar];exact hz) (av _))))
 case g1=>
 refine aa (zm ho1 rfl (aa (vf ?g2 (by show vs.length<=_;exact hz))))
 case g2=>
 refine aa (qe (fq ?g3) (av _))
 case g3=>
 obtain⟨h3,eh⟩:∃h3,h3=((s.heap.update a (jz λ_=>(#[]:Array Value))).push (jw "tuple" vs.toArray 0)).push (jw "list" #[] 0):=⟨_,rfl⟩
 show wpAny (model prog w) A _ P E { s with heap:=((s.heap.update a (jz λ_=>#[])).push (jw "tuple" vs.toArray 0)).push (jw "list" #[] 0) }
 rw[<- eh]
 have ho3:h3.get? a=some (jw "list" #[] e1):=by
  rw[eh]
  exact aj _ (aj _ ho1)
 have hv3:TupsAt h3 vs R:=hv.keep λx us ⟨o,b1,b2,b3⟩=>by
  have hx:x≠a:=λe=>by
   subst e
   rw[ho] at b1
   cases b1
   exact absurd (Value.type.inj (show Value.type "list" = Value.type "tuple" from b2)) (by decide)
  refine⟨o,?_,b2,b3⟩
  rw[eh]
  exact aj _ (aj _ (by rw[uc _ _ _ _ hx];exact b1))
 dsimp only
 have fin:∀(p:Array Nat) (st':va),Put R p->p.size=vs.length->arrOf st'=p.map (kas_item (vs.toArray.zip vs.toArray))->vb st'=none->wpAny (model prog w) A (do
   let touched:=(<- seqEpoch a) != e1
   wu (.ref a) λ_=>(arrOf st').map (·.2)
   if let some e:=vb st' then rule "list.sort.comparison-raised";throw e
   if touched then rule "list.sort.modified";raiseError "ValueError" "list modified during sort"
   ret .none) P E { s with heap:=h3 }:=λp st' hp hsz har hf=>by
  rw[kat_snds rfl har,hf]
  refine aa (zm ho3 rfl (aa (su ho3 rfl ?g4 (av _) ?g5)))
  case g5=>
   show(je _).size<=_
   rw[ar,af,cg];omega
  case g4=>
   simp only[bne_self_eq_false,dk,if_false]
   have:=h p hp
   unfold Aq at this
   rw[<- eh] at this
   exact ao this
 by_cases c:vs.toArray.size<2
 ·rw[if_pos c,if_pos c]
  refine aa (ao ?g6)
  case g6=>
  rw[StateT.run_pure]
  refine aa (ao ?g7)
  case g7=>
  have e2:(vs.toArray.zip vs.toArray).size=vs.length:=by simp
  refine fin (je (aq vs.length)) (SortSt.mk' general' (vs.toArray.zip vs.toArray) #[] 7 none) ⟨by rw[hv.1],λi j hij hj=>?_⟩ (by simp) ?_ rfl
  ·have hl:R.length<2:=by rw[<- hv.1];simpa using c
   rw[show i=j by omega]
   exact kP _
  ·have:=kas_range (vs.toArray.zip vs.toArray)
   rw[e2] at this
   exact this.symm
 ·rw[if_neg c,if_neg c]
  have h2:2<=vs.length:=by simpa using c
  obtain⟨fs,k1,k2,k3⟩:=kJ hv3 hne
  refine aa (kat_kind (s:={ s with heap:=h3 }) (T := .type "int") k1 (by have:=hv.1;omega) (λv hv'=>?g8) (by decide) ?g9)
  case g8=>
   obtain⟨i,t,rfl⟩:=k3 v hv'
   exact Looks.of_pure rfl
  case g9=>
  obtain⟨q1,q2,q3⟩:=aAK (r:=nJ R) (n:=vs.length) (by omega)
  refine aa (jl (kat_run (ks:=vs) (vs:=vs) (s:={ s with heap:=h3 }) (κ:=zk true) (Q:=λst' s'=>s'={ s with heap:=h3 }/\arrOf st'=(bF (nJ R) (k7 vs.length)).map (kas_item (vs.toArray.zip vs.toArray))/\vb st'=none) (G:=λp' s'=>p'=bF (nJ R) (k7 vs.length)/\s'={ s with heap:=h3 }) rfl h2 h64 (λp' st' s' a1 a2 a3 a4=>⟨a4.2,by rw[<- a4.1];exact a2,a3⟩)
   (aDs (N:=vs.length) (r:=nJ R) (λi j C hi hj hC=>aGy (s:={ s with heap:=h3 }) hv3 (by rw[<- hv.1];exact hi) (by rw[<- hv.1];exact hj) hC) _ (aAE (by omega)) ⟨rfl,rfl⟩)) ?_ λ_ _ e=>e)
  rintro⟨⟨⟩,st'⟩ s' ⟨rfl,har,hf⟩
  refine fin _ st' ⟨by rw[<- hv.1];exact q1,λi j hij hj=>?_⟩ q2 har hf
  have hle:=q3 i j hij (by rw[hv.1];exact hj)
  have bd:∀k,k<vs.length->(bF (nJ R) (k7 vs.length)).getD k 0<R.length:=λk hk=>by
   rw[cq,b8 (by omega)]
   have:=q1.mem_iff.mp (vy (show k<(bF (nJ R) (k7 vs.length)).size by omega))
   rw[<- hv.1]
   simpa using this
  have hlt:=lK (R:=R) (bd j (by rw[hv.1];exact hj)) (bd i (by rw[hv.1];omega))
  cases z:lexL (R.getD ((bF (nJ R) (k7 vs.length)).getD j 0) []) (R.getD ((bF (nJ R) (k7 vs.length)).getD i 0) []) with
  |false=>rfl
  |true=>
   have:=hlt.mpr z
   unfold Kr at hle
   omega
end
section
variable {prog:Program}{w:World}{A:Around}{E:Value->Shared->Prop}{s:Shared}
end
theorem aAg {R:List (List Int)}{p:Array Nat}(h:Put R p):(p.toList.map λi=>R.getD i []).Perm R/\(p.toList.map λi=>R.getD i []).Pairwise (λa b=>lexL b a=false):=by
 have pl:p.toList.Perm (aq R.length):=by simpa using nz.mp h.1
 have e:(aq R.length).map (λi=>R.getD i [])=R:=by
  apply oz
  ·simp
  ·intro i h1 h2
   rw[jq,m3,ak,ah h2];rfl
 have hl:p.size=R.length:=by rw[<- cg,pl.length_eq,e7]
 refine⟨by have:=pl.map λi=>R.getD i [];rw[e] at this;exact this,?_⟩
 rw[oq]
 intro i j hi hj hij
 rw[af,cg] at hi hj
 have:=h.2 i j (by omega) (by omega)
 rw[cq,b8 hj,cq,b8 hi] at this
 rw[jq,jq,sa,sa]
 exact this
end L2
namespace L2
open PySem PyProof.Rows
theorem aDH (r q:List Int):eqD (.tup (r.map Dt.int)) (.tup (q.map Dt.int))=decide (r=q):=by
 by_cases h:r=q
 ·subst h;rw[eQ,decide_eq_true rfl]
 ·rw[decide_eq_false h]
  cases e:eqD (.tup (r.map Dt.int)) (.tup (q.map Dt.int)) with
  |false=>rfl
  |true=>rw[eqD] at e;exact absurd (nX e) h
def aLe (K:ae) (neg:Bool):R2:=λx y H Q=>∃(b p:Addr) (r:List Int) (xs:List V) (R:List (List Int)),x = .ref b/\y = .ref p/\SqT K H b (r.map V.int)/\Sq K H p xs/\Rows K H xs R/\Q (.bl (if neg then !decide (r∈R) else decide (r∈R))) H
section
variable {X:Cx}
theorem aAk {pins:List (Addr×Obj)}{σ:St}{H:Hp}{s:Shared}{b:Addr}{r:List Int}{xs:List V}{R:List (List Int)}{its:List Value}(hu:X.A.units+103<cLine)(I:Inv X pins σ H s)(hb:SqT X.K H b (r.map V.int))(hR:Rows X.K H xs R)(rv:Vals xs its) :
  ∃e:Value->Bool,(∀u,u∈its->gi X.A.in1 s u (.ref b) (e u))/\its.any e=decide (r∈R):=by
 classical
 have hl:=rv.length
 have row_of:∀i (hi:i<its.length),∃c,∃hR':i<R.length,its[i] = .ref c/\SqT X.K H c (R[i].map V.int):=λi hi=>by
  have hR':i<R.length:=by rw[<- hR.1,hl];exact hi
  obtain⟨c,e1,e2⟩:=hR.2 i R[i] (ah hR')
  obtain⟨u,eu,rU⟩:=rv.get e1
  rw[ah hi] at eu
  cases eu
  exact⟨c,hR',rU,e2⟩
 refine⟨λu=>decide (∃c,u = .ref c/\SqT X.K H c (r.map V.int)),λu hu'=>?_,?_⟩
 ·obtain⟨i,hi,rfl⟩:=o7 hu'
  obtain⟨c,hR',e1,e2⟩:=row_of i hi
  rw[e1]
  have sh:∀(q:List Int) (a:Addr),SqT X.K H a (q.map V.int)->Sh X.K H (.tup (q.map Dt.int)) (.ref a):=λq a h=>⟨a,_,rfl,h,ShL.ints q⟩
  have g:=(I.eq_sh 100 X.A.in1 (.tup (R[i].map Dt.int)) (.tup (r.map Dt.int)) (.ref c) (.ref b) (.ref c) (.ref b) (by rw[dep,eJ];decide) (by show X.A.units+1+100<cLine;omega) rfl rfl (sh _ _ e2) (sh _ _ hb)).2
  rw[aDH] at g
  have ee:decide (R[i]=r)=decide (∃c',Value.ref c = .ref c'/\SqT X.K H c' (r.map V.int)):=by
   by_cases h:R[i]=r
   ·rw[decide_eq_true h,decide_eq_true ⟨c,rfl,h ▸ e2⟩]
   ·rw[decide_eq_false h,decide_eq_false]
    rintro⟨c',e,h'⟩
    cases e
    have:=I.tuple_inj e2 h'
    exact h ((vc λa b z=>V.int.inj z).mp this)
  show gi X.A.in1 s (Value.ref c) (Value.ref b) (decide (∃c',Value.ref c = .ref c'/\SqT X.K H c' (r.map V.int)))
  rw[<- ee]
  exact g
 ·by_cases h:r∈R
  ·rw[decide_eq_true h]
   obtain⟨i,hi,e⟩:=o7 h
   have hi':i<its.length:=by rw[<- hl,hR.1];exact hi
   obtain⟨c,_,e1,e2⟩:=row_of i hi'
   rw[o6]
   exact⟨its[i],f6 _,by rw[e1];exact decide_eq_true ⟨c,rfl,e ▸ e2⟩⟩
  ·rw[decide_eq_false h,List.any_eq_false]
   intro u hu'
   obtain⟨i,hi,rfl⟩:=o7 hu'
   obtain⟨c,hR',e1,e2⟩:=row_of i hi
   rw[decide_eq_true_iff]
   rintro⟨c',e,h'⟩
   rw[e1] at e
   cases e
   have:=I.tuple_inj e2 h'
   exact h ((vc λa b z=>V.int.inj z).mp this ▸ f6 hR')
theorem aBS (hu:X.A.units+103<cLine):OpR X (gj .NotIn) (aLe X.K true):=by
 intro pins s σ H x y v u Q I rx ry ⟨b,p,r,xs,R,e1,e2,hb,hq,hR,q⟩
 subst e1 e2
 cases rx
 cases ry
 rcases hq with hq | hq
 ·obtain⟨its,rv,pl,_⟩:=I.list hq
  obtain⟨e,h1,h2⟩:=aAk hu I hb hR rv
  refine SeqAt.notIn_listAt e pl.isList (λw hw=>h1 w (by simpa using hw)) ⟨.bl _,H,I,rfl,?_⟩
  rw[show its.toArray.any e=its.any e by simp,h2]
  exact q
 ·obtain⟨its,rv,pl,_⟩:=I.tuple hq
  obtain⟨e,h1,h2⟩:=aAk hu I hb hR rv
  refine zg e pl (λw hw=>h1 w (by simpa using hw)) ⟨.bl _,H,I,rfl,?_⟩
  rw[show its.toArray.any e=its.any e by simp,h2]
  exact q
end
def aKW (K:ae) (neg:Bool):R2:=λx y H Q=>rIn K neg x y H Q\/aLe K neg x y H Q
theorem aBr {X:Cx}{K:ae}{k:Nat}(hK:X.K=K)(hr:Room k X.A):OpR X (gj .NotIn) (aKW K true):=by
 subst hK
 exact OpR.or mK (aBS (by have:=hr.un;omega))
section
variable {X:Cx}
end
end L2
namespace L2
open PySem PySem.Spec PyProof.Rows
section
variable {prog:Program}{w:World}{A:Around}{E:Value->Shared->Prop}{s:Shared}{d:Addr}{o:Obj}{es:Array DictEntry}{ep:Nat}
end
section
variable {prog:Program}{w:World}{K:Type}[DecidableEq K]{knd:HeapKind prog w K}{A:Around}{E:Value->Shared->Prop}{s:Shared}{d a:Addr}{xs:List (K×Addr×Value)}{k:K}
end
section
variable {X:Cx}{pins:List (Addr×Obj)}{σ:St}{H:Hp}{s:Shared}{A:Around}{E:Value->Shared->Prop}{a b:Addr}{kvs:List (List Key×V)}{k:List Key}
end
section
variable {X:Cx}{o e f:Expr}{td ty tx:TE}{apos cpos:Pos}
end
section
variable {prog:Program}{w:World}{A:Around}{E:Value->Shared->Prop}{s:Shared}{d:Addr}{o:Obj}{es:Array DictEntry}{ep:Nat}
end
section
variable {prog:Program}{w:World}{A:Around}{E:Value->Shared->Prop}{s:Shared}
end
section
variable {X:Cx}{o i value:Expr}{pos pos':Pos}{td ty tv:TE}
end
section
variable {X:Cx}
def CMulG (i j:Int):Prop:=i.natAbs<2 ^ 8000/\j.natAbs<2 ^ 8000
theorem aCM {k:Int}(h:k.natAbs<2 ^ 8000):o8 k<=8000:=by
 unfold o8
 split
 ·exact av _
 ·rename_i c
  have hk:k.natAbs≠0:=λe=>c (by simp[Int.natAbs_eq_zero.mp e])
  have:=(Nat.log2_lt hk).mpr h
  omega
theorem CMulG.ok {i j:Int}(h:CMulG i j):IntMulOk i j:=by
 unfold IntMulOk Builtin.Int.intTooBig
 have h1:=aCM h.1
 have h2:=aCM h.2
 have:¬ (((o8 i+o8 j:Nat):Int) > (bitsLine:Int)):=by
  have:(16000:Int)<=(bitsLine:Int):=by decide
  omega
 intro e
 rw[b7] at e
 have:=of_decide_eq_true e.2
 omega
def dQ:R2:=λx y H Q=>match x,y with
 | .int i, .int j=>(CMul i j\/CMulG i j)/\Q (.int (i*j)) H
 | .ref a, .int k=>aKY (.ref a) (.int k) H Q
 |_,_=>False
theorem bZ:OpR X (lh .Mult) dQ:=by
 intro pins s σ H x y v u Q I rx ry h
 unfold dQ at h
 split at h
 ·rcases h with⟨h | h,q⟩
  ·exact aIK (X:=X) pins s σ H _ _ v u Q I rx ry ⟨_,_,rfl,rfl,h,q⟩
  ·exact(opI λ_ _ _ _ _ _ _ hc q=>mul_int q hc.ok:OpR X (lh .Mult) (rI CMulG λi j => .int (i*j))) pins s σ H _ _ v u Q I rx ry ⟨_,_,rfl,rfl,h,q⟩
 ·exact aIM (X:=X) pins s σ H _ _ v u Q I rx ry h
 ·exact h.elim
def aII (i j:Int):Prop:=0<j/\j.natAbs<2 ^ 8000
abbrev pE:R2:=rI aII λi j => .int (i / j)
theorem fV:OpR X (lh .FloorDiv) pE:=opI λi j _ _ _ _ _ hc q=>by
 have h1:(0:Int)<j:=hc.1
 refine floordiv_int (by omega) (by rw[Int.fdiv_eq_ediv_of_nonneg i (by omega)];exact q) (.inl (PyProof.noPylong_of_log2 ?_))
 have:=(Nat.log2_lt (show j.natAbs≠0 by omega)).mpr hc.2
 omega
end
def aDy:Nat->List (List Nat)
 |0=>[[]]
 |n+1=>aDy n++(aDy n).map (· ++ [n])
def pH:List (List Nat):=aDy 8
theorem iH:∀(n:Nat) (ks:List Nat),ks.Pairwise (· < ·)->(∀k∈ks,k<n)->ks∈aDy n
 |0,ks,_,h=>by
  cases ks with
  |nil=>exact dw.mpr rfl
  |cons k ks=>exact absurd (h k (bp ..)) (l9 _)
 |n+1,ks,hp,h=>by
  rw[aDy,du,bt]
  rcases List.eq_nil_or_concat ks with rfl | ⟨l,x,rfl⟩
  ·exact .inl (iH n [] .nil λk z=>by cases z)
  ·rw[List.concat_eq_append] at hp h ⊢
   have hl:=(sd.mp hp)
   have hx:x<n+1:=h x (di _ (dw.mpr rfl))
   by_cases c:x=n
   ·subst c
    exact .inr ⟨l,iH _ l hl.1 λk hk=>hl.2.2 k hk _ (dw.mpr rfl),rfl⟩
   ·refine .inl (iH n _ hp λk hk=>?_)
    rcases du.mp hk with hk | hk
    ·have:=hl.2.2 k hk x (dw.mpr rfl);omega
    ·rw[dw.mp hk];omega
def smT (led:Bool) (ks:List Nat):SetTable:={ mask:=if ks.length<=4 then 7 else 31,place:=ks.toArray,dummies:=#[],finger:=0,led:=led,moves:=if ks.length<=4 then 0 else 1,plain:=true }
def qN (ks:List Nat) (k:Nat):List Nat:=ks.take (bg ks.toArray k)++k :: ks.drop (bg ks.toArray k)
def smP (led:Bool) (ks:List Nat) (k:Nat):SetTable:={ smT led ks with place:=(qN ks k).toArray }
def aJl (ks:List Nat):Bool:=decide (ks.Pairwise (· < ·)) && ks.all (λk=>decide (k<8)) && decide (ks.length<=8)
def aJq (led:Bool) (ks:List Nat) (k:Nat):Bool:=ks.contains k || (decide ((smT led ks).freeSlot (Int.ofNat k)=some (k,false)) && decide ((smT led ks).put k=(smP led ks k,bg ks.toArray k)) && (smP led ks k).fits (ks.length+1)
 && aJl (qN ks k) && decide ((smP led ks k).tooFull=(ks.length == 4)) && (if ks.length=4 then decide ((smP led ks k).relaid ((qN ks k).map Int.ofNat).toArray (rf 5)=some (smT led (qN ks k),#[0,1,2,3,4])) else decide (smP led ks k=smT led (qN ks k))))
theorem aHm:(pH.all λks=>(aq 8).all λk=>aJq true ks k && aJq false ks k)=true:=by decide+kernel
theorem aDQ {led:Bool}{ks:List Nat}(h:ks∈pH){k:Nat}(hk:k<8)(hn:k∉ks):(smT led ks).freeSlot (Int.ofNat k)=some (k,false)/\(smT led ks).put k=(smP led ks k,bg ks.toArray k)/\(smP led ks k).fits (ks.length+1)=true/\qN ks k∈pH/\(smP led ks k).tooFull=(ks.length == 4) /\
  (ks.length=4->(smP led ks k).relaid ((qN ks k).map Int.ofNat).toArray (rf 5)=some (smT led (qN ks k),#[0,1,2,3,4]))/\(ks.length≠4->smP led ks k=smT led (qN ks k)):=by
 have a:=bw.mp (bw.mp aHm ks h) k (da.mpr hk)
 have b:aJq led ks k=true:=by
  rw[b7] at a
  cases led
  ·exact a.2
  ·exact a.1
 unfold aJq at b
 have c:ks.contains k=false:=by rw[<- dq];intro z;exact hn (xy.mp z)
 rw[c,sk] at b
 simp only[b7,decide_eq_true_eq] at b
 obtain⟨⟨⟨⟨⟨b1,b2⟩,b3⟩,b4⟩,b5⟩,b6⟩:=b
 refine⟨b1,b2,b3,?_,b5,λz=>?_,λz=>?_⟩
 ·unfold aJl at b4
  simp only[b7,decide_eq_true_eq,bw] at b4
  exact iH 8 _ b4.1.1 b4.1.2
 ·rw[if_pos z] at b6;exact of_decide_eq_true b6
 ·rw[if_neg z] at b6;exact of_decide_eq_true b6
def aKU (ks:List Nat):Bool:=decide (bg ks.toArray 0=0) && (aq ks.length).all λi=>decide (bg ks.toArray (ks.getD i 0+1)=i+1)
theorem aKf:pH.all aKU=true:=by decide+kernel
theorem aFS {ks:List Nat}(h:ks∈pH):bg ks.toArray 0=0/\∀i<ks.length,bg ks.toArray (ks.getD i 0+1)=i+1:=by
 have a:=bw.mp aKf ks h
 unfold aKU at a
 rw[b7,bw] at a
 exact⟨of_decide_eq_true a.1,λi hi=>of_decide_eq_true (a.2 i (da.mpr hi))⟩
theorem aJK:pH.all aJl=true:=by decide+kernel
theorem jJ {ks:List Nat}(h:ks∈pH):ks.Pairwise (· < ·)/\(∀k∈ks,k<8)/\ks.length<=8:=by
 have a:=bw.mp aJK ks h
 unfold aJl at a
 simp only[b7,decide_eq_true_eq,bw] at a
 exact⟨a.1.1,λk hk=>a.1.2 k hk,a.2⟩
theorem oD (ks:List Nat)(k:Nat):(qN ks k).Perm (k :: ks):=by
 unfold qN
 refine List.perm_middle.trans ?_
 rw[ya]
theorem rY {α:Type}:∀{l:List α}{i:Nat} (h:i<l.length),([l[i]]++l.eraseIdx i).Perm l
 |x :: l,0,_ => .refl _
 |x :: l,i+1,h=>by
  have h':i<l.length:=by simpa using h
  have:=rY h'
  rw[List.eraseIdx_cons_succ,List.getElem_cons_succ]
  exact(List.Perm.swap _ _ _).trans (List.Perm.cons x this)
theorem aDm {α:Type}(f:Nat->Nat):∀(n k:Nat) (l:List α) (o:Array α),l.length=n->(Az f n k l o).toList.Perm (o.toList++l)
 |0,_,[],o,_=>by rw[Az,gu]
 |n+1,k,l,o,h=>by
  have hl:f k % l.length<l.length:=Nat.mod_lt _ (by omega)
  rw[Az,ah hl]
  refine(aDm f n (k+1) _ _ (by rw[List.length_eraseIdx,if_pos hl];omega)).trans ?_
  rw[Array.toList_push,gz]
  exact List.Perm.append_left _ (rY hl)
theorem aCW {α:Type}(f:Nat->Nat)(xs:Array α):(pickOrder f xs).toList.Perm xs.toList:=by
 have:=aDm f xs.size 0 xs.toList #[] (cg ..)
 simpa[pickOrder] using this
def byT (w:World):Bool:=w.params.followText "set-order"
abbrev smO (w:World) (es:Array (Int×Value)) (ep:Nat) (ks:List Nat):Obj:={ cls := .type "set",dict:=none,data := .set es ep (smT (!byT w) ks) }
def SmE (es:Array (Int×Value)) (ks:List Nat):Prop:=ks∈pH/\es.toList.map (·.1)=ks.map Int.ofNat/\∀e∈es.toList,∃tk,e.2 = .int e.1 tk
def zL (w:World) (a:Addr) (ks:List Nat) (h:Heap):Prop:=∃es ep,h.get? a=some (smO w es ep ks)/\SmE es ks
theorem iT {ks:List Nat}(h:ks∈pH)(led:Bool):(smT led ks).fits ks.length=true:=by
 have:=(jJ h).2.2
 simp only[smT,SetTable.fits,Ac,ar,kn,AA,b7,beq_self_eq_true,true_and,decide_eq_true_eq]
 split <;> omega
theorem SmE.size {es:Array (Int×Value)}{ks:List Nat}(h:SmE es ks):es.size=ks.length:=by
 have:=congrArg ze h.2.1
 simpa using this
theorem rT:∀k:Nat,k<8->Ae (Int.ofNat k)=Int.ofNat k:=by decide+kernel
section
variable {prog:Program}{w:World}{A:Around}{E:Value->Shared->Prop}{s:Shared}
theorem SmE.elems {es:Array (Int×Value)}{ks:List Nat}(h:SmE es ks):ElemsOf (fm prog w) es.toList:=by
 intro e he
 obtain⟨tk,z⟩:=h.2.2 e he
 have m:e.1∈ks.map Int.ofNat:=by rw[<- h.2.1];exact ju he
 obtain⟨k,hk,ek⟩:=bt.mp m
 refine⟨⟨e.1,by rw[z];exact vz _ _ _ _,?_⟩,by rw[z];rfl⟩
 show e.1=Ae e.1
 rw[<- ek,rT k ((jJ h.1).2.1 k hk)]
theorem SmE.mem {es:Array (Int×Value)}{ks:List Nat}(h:SmE es ks)(k:Nat):k∈ks↔∃e∈es.toList,(fm prog w).is (Int.ofNat k) e.2=true:=by
 constructor
 ·intro hk
  have m:Int.ofNat k∈es.toList.map (·.1):=by rw[h.2.1];exact ju hk
  obtain⟨e,he,ee⟩:=bt.mp m
  obtain⟨tk,z⟩:=h.2.2 e he
  exact⟨e,he,by rw[z,ee];exact vz _ _ _ _⟩
 ·rintro⟨e,he,hi⟩
  obtain⟨tk,z⟩:=h.2.2 e he
  have q:Int.ofNat k=e.1:=(fm prog w).inj e.2 _ _ hi (by rw[z];exact vz _ _ _ _)
  have m:e.1∈ks.map Int.ofNat:=by rw[<- h.2.1];exact ju he
  obtain⟨j,hj,ej⟩:=bt.mp m
  rw[<- q] at ej
  rw[<- Int.ofNat.inj ej];exact hj
theorem SmE.put {es:Array (Int×Value)}{ks:List Nat}(h:SmE es ks){k:Nat}(hk:k<8)(hn:k∉ks)(t:Tok):SmE (ma es (bg ks.toArray k) (Int.ofNat k, .int (Int.ofNat k) t)) (qN ks k):=by
 refine⟨(aDQ (led:=true) h.1 hk hn).2.2.2.1,?_,?_⟩
 ·rw[pg,bz,c4,nk,sr,h.2.1]
  unfold qN
  rw[bz,c4,nk,sr]
 ·intro e he
  rw[(xj es _ _).mem_iff,Array.toList_push,du,dw] at he
  rcases he with he | rfl
  ·exact h.2.2 e he
  ·exact⟨t,rfl⟩
theorem aIj {es:Array (Int×Value)}{ks:List Nat}(h:SmE es ks){k:Nat}(hk:k<8)(hn:k∉ks)(led:Bool)(x:Value):layNew (smT led ks) es (Int.ofNat k) x=(ma es (bg ks.toArray k) (Int.ofNat k,x),smP led ks k,false,false):=by
 obtain⟨a1,a2,a3,_⟩:=aDQ (led:=led) h.1 hk hn
 have sz:(ma es (bg ks.toArray k) (Int.ofNat k,x)).size=ks.length+1:=by
  rw[<- cg,(xj es _ _).length_eq,cg,Array.size_push,h.size]
 unfold layNew
 rw[a1]
 dsimp only
 rw[a2]
 dsimp only
 rw[sz]
 unfold SetTable.orStandIn
 rw[a3,if_pos rfl]
 rfl
theorem aEI {es:Array (Int×Value)}{ks:List Nat}{k:Nat}(h:SmE es (qN ks k))(h0:ks∈pH)(hk:k<8)(hn:k∉ks)(h4:ks.length=4)(led:Bool):relayAll (smP led ks k) es (rf es.size)=(es,smT led (qN ks k),false):=by
 obtain⟨_,_,_,b1,_,a6,_⟩:=aDQ (led:=led) h0 hk hn
 have l5:(qN ks k).length=5:=by rw[(oD ks k).length_eq,cy,h4]
 have sz:es.size=5:=by rw[h.size,l5]
 have eh:es.map (·.1)=((qN ks k).map Int.ofNat).toArray:=by
  apply mq.mp
  rw[Array.toList_map,h.2.1]
 have ef:(#[0,1,2,3,4]:Array Nat).filterMap (es[·]?)=es:=by
  apply mq.mp
  rw[xk]
  have:=filterMap_getElem?_range es
  rw[sz] at this
  exact this
 unfold relayAll
 rw[eh,sz,a6 h4]
 dsimp only
 rw[ef,sz]
 have c1:coversAll #[0,1,2,3,4] 5=true:=by decide
 have c2:(smT led (qN ks k)).fits 5=true:=by rw[<- l5];exact iT b1 led
 rw[c1,c2]
 rfl
def uQ (ks:List Nat) (k:Nat):List Nat:=if k∈ks then ks else qN ks k
theorem tU {h:Heap}{a:Addr}{es es':Array (Int×Value)}{ep:Nat}{ks:List Nat}{t t':SetTable}{o:Obj}(ho:h.get? a=some o)(ed:o.data = .set es ep t):(h.update a (Ar es' t')).get? a=some { o with data := .set es' (ep+1) t' }:=by
 have:=jd (Ar es' t') ho (by rw[putSet_of es' t' ed];rfl)
 rw[putSet_of es' t' ed] at this
 exact this
theorem aIP {a:Addr}{ks:List Nat}{k:Nat}{t:Tok}{Q:Bool->Shared->Prop}(hS:zL w a ks s.heap)(hk:k<8)
  (h:∀h' b,fg a s.heap h'->zL w a (uQ ks k) h'->Q b { s with heap:=h' }):wpAny (model prog w) A (yc a (.int (Int.ofNat k) t) (Ae (Int.ofNat k))) Q E s:=by
 obtain⟨es,ep,ho,hE⟩:=hS
 have hel:ElemsOf (fm prog w) es.toList:=hE.elems
 have l8:=(jJ hE.1).2.2
 have hf:(smT (!byT w) ks).fits es.size=true:=by rw[hE.size];exact iT hE.1 _
 have hb:es.size<scanBound:=by rw[hE.size];unfold scanBound;omega
 have hkey:=vz prog w (Int.ofNat k) t
 unfold yc setAddHashedIn
 refine fq (aa (gc ho rfl hf ?_))
 dsimp only
 rw[byScan_of (knd:=fm prog w) rfl hb hel]
 simp only[↓reduceIte]
 unfold setAddByScan
 refine aa ?_
 refine aa (nh ?_)
 refine aa (wpAny_setScan_of (knd:=fm prog w) hkey ho rfl hf hel ?_)
 cases hr:List.findIdx? (λe=>(fm prog w).is (Int.ofNat k) e.2) es.toList with
 |some j=>
  dsimp only
  obtain⟨hj,hpj,_⟩:=List.findIdx?_eq_some_iff_getElem.mp hr
  have hin:k∈ks:=(hE.mem (prog:=prog) (w:=w) k).mpr ⟨_,f6 hj,hpj⟩
  refine ao (ao ?_)
  have e:s={ s with heap:=s.heap }:=by cases s;rfl
  rw[e]
  exact h s.heap _ (Heap.SameBut.refl a s.heap) ⟨es,ep,by rw[uQ,if_pos hin];exact ho,by rw[uQ,if_pos hin];exact hE⟩
 |none=>
  dsimp only
  have hn:k∉ks:=λz=>by
   obtain⟨e,he,hp⟩:=(hE.mem (prog:=prog) (w:=w) k).mp z
   have:=List.findIdx?_eq_none_iff.mp hr e he
   rw[hp] at this;exact Bool.noConfusion this
  rw[rT k hk,aIj hE hk hn]
  dsimp only
  refine aa (ao ?_)
  have hE1:=hE.put hk hn t
  generalize he1:ma es (bg ks.toArray k) (Int.ofNat k,Value.int (Int.ofNat k) t)=es1 at hE1 ⊢
  have l5:(qN ks k).length=ks.length+1:=by rw[(oD ks k).length_eq,cy]
  have hz:es1.size<=bx:=by rw[hE1.size,l5,jt];omega
  obtain⟨_,_,_,_,a5,_,a7⟩:=aDQ (led:=!byT w) hE.1 hk hn
  rw[if_pos (show(smP (!byT w) ks k).plain=true from rfl),hashByValue_scannable 8 rfl]
  refine aa (ao ?_)
  rw[if_pos (show plainKind (.int (Int.ofNat k) t)=true from rfl)]
  refine aa (qr ho rfl ?_ hz)
  have ho1:=tU (ks:=ks) (es':=es1) (t':=smP (!byT w) ks k) ho rfl
  have sb1:=f7 s.heap a (Ar es1 (smP (!byT w) ks k))
  rw[a5]
  by_cases h4:ks.length=4
  ·rw[if_pos (by rw[h4];rfl),aEI hE1 hE.1 hk hn h4]
   dsimp only
   refine aa (ao (aa (qr ho1 rfl ?_ hz)))
   have ho2:=tU (ks:=ks) (es':=es1) (t':=smT (!byT w) (qN ks k)) ho1 rfl
   exact ao (ao (h _ _ (sb1.trans (f7 _ a _)) ⟨es1,_,by rw[uQ,if_neg hn];exact ho2,by rw[uQ,if_neg hn];exact hE1⟩))
  ·rw[if_neg (by simp[h4])]
   rw[a7 h4] at ho1 sb1 ⊢
   exact ao (ao (h _ _ sb1 ⟨es1,_,by rw[uQ,if_neg hn];exact ho1,by rw[uQ,if_neg hn];exact hE1⟩))
end
theorem aBC {ks:List Nat}{k j:Nat}:j∈uQ ks k↔j∈ks\/j=k:=by
 unfold uQ
 split
 ·rename_i h
  exact⟨.inl,λz=>z.elim id λe=>e ▸ h⟩
 ·rw[(oD ks k).mem_iff,cm]
  exact⟨λz=>z.elim .inr .inl,λz=>z.elim .inr .inl⟩
section
variable {prog:Program}{w:World}{A:Around}{R:w6->Shared->Prop}{I:Addr}{fp wr:List Addr}{G:Array GenState->Array GenState->Prop}{n:Nat}{P:Nat->Value->Prop}{St:Nat->Shared->Prop}
theorem aGm (W:WalksS prog w A.in1 I fp wr G n P St)(S:Addr)(hSf:S∉fp)(val:Nat->Nat)(hval:∀i v,i<n->P i v->∃t,v = .int (Int.ofNat (val i)) t)(h8:∀i,i<n->val i<8) :
  ∀(k i:Nat) (ks:List Nat) (s:Shared),n - i=k->i<=n->St i s->zL w S ks s.heap->(∀j,j∈ks↔∃m,m<i/\val m=j) ->
   (∀ks' s',Moved (S :: wr) G s s'->zL w S ks' s'.heap->(∀j,j∈ks'↔∃m,m<n/\val m=j)->R (.ok (.ret .none)) s') ->
   wg (model prog w) A (.builtin "set.update.loop" ⟨[.ref S, .ref I],[]⟩) R s:=by
 have hSw:S∉wr:=λh=>hSf (W.sub _ h)
 have hsub:∀b∈wr,b∈S :: wr:=λb hb=>bf _ hb
 have up:∀{ks:List Nat}{s s':Shared},Moved wr G s s'->zL w S ks s.heap->zL w S ks s'.heap:=λhm ⟨es,ep,ho,hE⟩=>⟨es,ep,hm.heap S _ hSw ho,hE⟩
 intro k
 induction k with
 |zero=>
  intro i ks s hk hi hst hS hm hR
  have hin:i=n:=by omega
  subst hin
  refine gw mj ?_
  rw[ic ji _]
  show wpAny _ A.in1 (qh (.ref I) >>= _) _ _ s
  refine aa (W.done s _ _ hst λs' hmv=>?_)
  show wpAny _ A.in1 (ret Value.none) _ _ s'
  exact ao (hR ks s' (hmv.mono hsub) (up hmv hS) hm)
 |succ k ih=>
  intro i ks s hk hi hst hS hm hR
  have hlt:i<n:=by omega
  refine gw mj ?_
  rw[ic ji _]
  show wpAny _ A.in1 (qh (.ref I) >>= _) _ _ s
  refine aa (W.item i s _ _ hlt hst λv s' hP hst' hmv=>?_)
  obtain⟨t,rfl⟩:=hval i v hlt hP
  have hS':=up hmv hS
  show wpAny _ A.in1 (Ag [Value.int (Int.ofNat (val i)) t] (setAdd S (.int (Int.ofNat (val i)) t)) >>= _) _ _ s'
  refine aa (fq ?_)
  unfold setAdd
  refine fq ?_
  refine aa ((fm prog w).pyHash (k:=Int.ofNat (val i)) (vz _ _ _ _) ?_)
  refine aIP (s:={ s' with toks:=s'.toks+1 }) hS' (h8 i hlt) λh' b hsb hS2=>?_
  refine ao ⟨tf ji _,ih (i+1) _ _ (by omega) hlt (W.frame _ s' _ _ hst' (wk _) λb hb o e=>?_) hS2 (λj=>?_) λks' s'' hm'' hS'' hks=>?_⟩
  ·rw[hsb.2 b (λh:b=S=>hSf (by rw[<- h];exact hb))];exact e
  ·rw[aBC,hm j]
   constructor
   ·rintro(⟨m,h1,h2⟩ | rfl)
    ·exact⟨m,fj h1,h2⟩
    ·exact⟨i,jo i,rfl⟩
   ·rintro⟨m,h1,h2⟩
    rcases ph.mp h1 with h1 | rfl
    ·exact .inl ⟨m,h1,h2⟩
    ·exact .inr h2.symm
  ·refine hR ks' s'' (Moved.trans W.gtrans ((hmv.mono hsub).then_heap (wk _) λb o hb e=>?_) hm'') hS'' hks
   rw[hsb.2 b (λh:b=S=>hb (by rw[h];exact bp))];exact e
end
section
variable {prog:Program}{w:World}{A:Around}{E:Value->Shared->Prop}{s:Shared}
theorem aEU (a:Value){Q₁:Value->Shared->Prop}(h:Q₁ (.ref s.heap.objs.size) { s with heap:=s.heap.push (smO w #[] 0 []) }) :
  wg (model prog w) A (.call (.builtin "set.__new__") ⟨[.type "set",a],[]⟩) (wants Q₁ E) s:=by
 refine t8 ?_
 show wpAny _ A.in1 (do checkBuiltinCall "set.__new__" ⟨[.type "set",a],[]⟩;again (.builtin "set.__new__" ⟨[.type "set",a],[]⟩)) _ _ s
 refine aa (qp (F.newCall_set_1 a) (ao ⟨tf F.plain_set_new _,gw F.entry_set_new ?_⟩))
 rw[ic F.plain_set_new _]
 unfold Builtin.«set.__new__» Builtin.Frozenset.newClass
 have hsub:=sub_set_self
 obtain⟨hp,g,d,tk,os⟩:=s
 dsimp only
 wp_walk
 refine i8 (ao ?_)
 dsimp only
 simp only[newObj]
 refine aa (wpAny_alloc (ao ?_))
 exact ao h
theorem aEE (h:Heap):zL w h.objs.size [] (h.push (smO w #[] 0 [])):=⟨#[],0,ay _ rfl,iH 8 [] .nil (λk z=>by cases z),rfl,λe he=>by cases he⟩
theorem yV {l:Addr}{items:Array Value}{ns:List Nat}{Q:Value->Shared->Prop}(hh:A.handled=none)(hl:s.heap.IsTuple l items)(hi:IntsAre items.toList (ns.map Int.ofNat))(h8:∀k∈ns,k<8)
  (h:∀(h':Heap) (tk:Nat) (ks:List Nat),zL w s.heap.objs.size ks h'->(∀j,j∈ks↔j∈ns)->(∀b o,b<s.heap.objs.size->s.heap.get? b=some o->h'.get? b=some o)->Q (.ref s.heap.objs.size) { s with heap:=h',toks:=tk }) :
  wpAny (model prog w) A (call (.type "set") [.ref l]) Q E s:=by
 obtain⟨c,tl,hmro⟩:=ij.mro
 have hmade:=ij.made
 have hsub:=ij.sub
 refine wpAny_call (t8 ?_)
 show wpAny _ _ (callAny (.type "set") _) _ _ _
 refine ao ⟨u4 _ (by decide+kernel),gw F.entry_type_call ?_⟩
 rw[Around.under_plain (yd "set" [.ref l] []) rfl]
 have h1:=ij.notType
 have h2:=ij.canCreate
 have hct:=F.typeCall_set_1 (.ref l)
 repeat (any_goals (first | assumption | wp_step))
 refine jm (aEU (.ref l) (E:=E) (Q₁:=λobj s1=>obj = .ref s.heap.objs.size/\s1={ s with heap:=s.heap.push (smO w #[] 0 []) }) ⟨rfl,rfl⟩) λr s1 hr=>?_
 cases r with
 |error e=>exact hr
 |ok fl=>
  cases fl with
  |ret obj=>
   obtain⟨rfl,rfl⟩:=hr
   have hS:(s.heap.push (smO w #[] 0 [])).get? s.heap.objs.size=some (smO w #[] 0 []):=ay _ rfl
   have hT:Shared.TypeIs { s with heap:=s.heap.push (smO w #[] 0 []) } (.ref s.heap.objs.size) "set":=⟨_,hS,rfl⟩
   have hli:=ij.init.lookup
   have hbi:=ij.init.bind (.ref s.heap.objs.size)
   repeat (any_goals (first | assumption | wp_step))
   refine jm (yx (R:=wants (λr s2=>r = .none/\∃h' tk ks,s2={ s with heap:=h',toks:=tk }/\zL w s.heap.objs.size ks h'/\(∀j,j∈ks↔j∈ns)/\∀b o,b<s.heap.objs.size->s.heap.get? b=some o->h'.get? b=some o) E) ij.init.plain F.entry_set_init (check_set_init_1 hT ?_)) λr2 s2 hr2=>?_
   ·obtain⟨ol,hol,hcl,nl,hdl⟩:=hl
    obtain⟨ocls,odict,odata,oslots⟩:=ol
    simp only at hcl hdl
    subst hcl;subst hdl
    have hol':(s.heap.push (smO w #[] 0 [])).get? l=some { cls := .type "tuple",dict:=odict,data := .seq items nl,slots:=oslots }:=aj _ hol
    have hsls:=yK
    have hslf:=zA
    have hne:(Value.type "tuple" == Value.type "dict")=false:=by decide
    have hl1:(s.heap.push (smO w #[] 0 [])).IsTuple l items:=⟨_,hol',rfl,nl,rfl⟩
    have hlS:l<s.heap.objs.size:=bj hol
    unfold Builtin.«set.__init__» noKeywords tj
    generalize hPI:zv=PI
    wp_walk
    subst hPI
    refine qd hl1 ?_
    refine aa (qz ?_)
    have hh3:A.in1.in1.in1.handled=none:=by simp[hh]
    have hneI:l≠(s.heap.push (smO w #[] 0 [])).objs.size:=by
     rw[e8]
     exact c6 (fj hlS)
    have hlen:items.size=ns.length:=by
     have:=IntsAre.len hi
     simpa using this
    refine aGm ((Walks.tuple hh3 _ l hneI items).toS) s.heap.objs.size ?_ (λi=>ns.getD i 0) (λi v hlt hv=>?_) (λi hlt=>?_) (items.size - 0) 0 [] _ (by omega) (av _) ⟨⟨_,ay _ rfl,rfl,rfl⟩,hl1.push _⟩ ?_ (λj=>⟨λz=>(by cases z),λ⟨m,z,_⟩=>absurd z (l9 m)⟩) ?_
    ·rw[e8]
     simp only[cm,ip,or_false,not_or]
     exact⟨c6 (jo _),ja hlS⟩
    ·obtain⟨t,e⟩:=IntsAre.int_at hi i v (by rw[k8];exact hv)
     refine⟨t,?_⟩
     rw[e]
     rw[hlen] at hlt
     simp[ak,ah hlt]
    ·rw[hlen] at hlt
     rw[ak,ah hlt]
     exact h8 _ (f6 hlt)
    ·obtain⟨es,ep,a1,a2⟩:=aEE (w:=w) s.heap
     exact⟨es,ep,aj _ a1,a2⟩
    ·intro ks' s' hm hS' hks
     obtain⟨h',g',d',tk',os'⟩:=s'
     have eg:g'=s.gens:=hm.gens
     have ed:d'=s.drawn:=hm.drawn
     have eo:os'=s.os:=hm.os
     subst eg ed eo
     show wpAny _ _ _ _ _ _
     refine ao ?_
     show wpAny _ _ (ret Value.none) _ _ _
     refine ao ⟨rfl,h',tk',ks',rfl,hS',λj=>?_,λb o hb e=>hm.heap b o ?_ (aj _ (aj _ e))⟩
     ·rw[hks j]
      constructor
      ·rintro⟨m,h1,h2⟩
       rw[hlen] at h1
       rw[ak,ah h1] at h2
       rw[<- h2];exact f6 h1
      ·intro hj
       obtain⟨m,h1,h2⟩:=o7 hj
       exact⟨m,by rw[hlen];exact h1,by rw[ak,ah h1];exact h2⟩
     ·rw[e8]
      simp only[cm,ip,or_false,not_or]
      exact⟨c6 hb,c6 (fj hb)⟩
   ·cases r2 with
    |error e=>exact hr2
    |ok fl2=>
     cases fl2 with
     |ret r=>
      obtain⟨rfl,h',tk,ks,rfl,hd⟩:=hr2
      repeat (any_goals (first | assumption | wp_step))
      exact h _ _ _ hd.1 hd.2.1 hd.2.2
     |_=>exact hr2.elim
  |_=>exact hr.elim
end
theorem oR:Manifest.owners.lookup (String.ofList ['r','o','t','a','r','e','t','i','_','t','e','s'].reverse)=some Manifest.sig_set_iterator:=by kernel_rfl
theorem bI:Slot "set_iterator" "__next__" "set_iterator.__next__":=
 .of (owner:="set_iterator") (n:="__next__") (by rw[typeLookup_type,ye];kernel_rfl) (by decide+kernel) (by decide+kernel) (by decide+kernel)
  (by first | exact .inl (by decide+kernel) | exact .inr (by decide+kernel)) (by rw[q9];kernel_rfl)
theorem eB:entryFor table "set_iterator.__next__" = some Builtin.«set_iterator.__next__»:=entryFor_of_tree (by kernel_rfl)
theorem eG (a:Value):argsOk "set_iterator.__next__" ⟨[a],[]⟩:=by
 unfold argsOk;rw[signature?_of (id:="set_iterator.__next__") (n:=['_','_','t','x','e','n','_','_']) (o:=['r','o','t','a','r','e','t','i','_','t','e','s']) (by kernel_rfl) oR];kernel_rfl
theorem jF:entryFor table "set.__iter__" = some Builtin.«frozenset.__iter__»:=
 entryFor_alias (id':="frozenset.__iter__") (by kernel_rfl) rfl (by decide+kernel) (by kernel_rfl)
def SIt (it a:Addr) (slot i n ep:Nat) (h:Heap):Prop:=∃o,h.get? it=some o/\o.cls = .type "set_iterator"/\o.data = .fields #[jb slot,jb i, .ref a,jb n,jb ep]
def cQ (w:World) (ks:List Nat):Nat->Nat
 |0=>0
 |i+1=>if byT w then 0 else ks.getD i 0+1
def cY (w:World) (a:Addr) (ep:Nat) (es:Array (Int×Value)):Array (Int×Value):=if byT w then pickOrder (w.params.setOrder a ep) es else es
theorem eL (w:World)(a:Addr)(ep:Nat)(es:Array (Int×Value)):(cY w a ep es).toList.Perm es.toList:=by
 unfold cY
 split
 ·exact aCW _ _
 ·exact .refl _
section
variable {prog:Program}{w:World}{A:Around}{E:Value->Shared->Prop}{s:Shared}{a:Addr}{es:Array (Int×Value)}{ep:Nat}{ks:List Nat}
theorem aDF {Q:Bool->Shared->Prop}(ho:s.heap.get? a=some (smO w es ep ks))(hf:(smT (!byT w) ks).fits es.size=true)(h:Q false s):wpAny (model prog w) A (setDrawn a) Q E s:=by
 unfold setDrawn v3
 refine aa (gc ho rfl hf (aa (aa (i8 (ao ?_)))))
 refine ao ?_
 have:(!(w.params.followText "set-order") && (!(smT (!byT w) ks).plain && decide (es.size > 1)))=false:=by
  rw[show(smT (!byT w) ks).plain=true from rfl];simp
 exact this ▸ h
theorem aGQ {Q:Value->Shared->Prop}(ho:s.heap.get? a=some (smO w es ep ks))(hf:(smT (!byT w) ks).fits es.size=true)
  (h:Q (.ref s.heap.objs.size) { s with heap:=s.heap.push { cls := .type "set_iterator",data := .fields #[jb 0,jb 0, .ref a,jb es.size,jb ep] } }):wpAny (model prog w) A (zv (.ref a)) Q E s:=by
 have hT:s.TypeIs (.ref a) "set":=⟨_,ho,rfl⟩
 refine qt hT ud (dt ud hT jF ?g (F.args_set_iter_1 _))
 case g=>
 unfold Builtin.«frozenset.__iter__» wx v5
 refine aa (aa (ao (ao ?_)))
 refine aa (aa (kr ho rfl hf (ao ?_)))
 refine aa (aDF ho hf ?_)
 rw[if_neg (by exact bq)]
 refine aa (ao (aa (wpAny_setEpoch_of ho rfl hf ?_)))
 unfold newFields
 refine aa (fc (ao ⟨_,rfl,"set_iterator",_,⟨_,ay _ rfl,rfl⟩,bI.lookup,?_⟩))
 exact h
theorem aAe {slot i:Nat}{Q:Option (Value×Nat)->Shared->Prop}(ho:s.heap.get? a=some (smO w es ep ks))(hE:SmE es ks)(hs:slot=cQ w ks i)(hi:i<=es.size)
  (h:Q (((cY w a ep es)[i]?).map λe=>(e.2,cQ w ks (i+1))) s):wpAny (model prog w) A (zo a slot i ep) Q E s:=by
 have hf:(smT (!byT w) ks).fits es.size=true:=by rw[hE.size];exact iT hE.1 _
 unfold zo v3
 refine aa (gc ho rfl hf (aa (aa (i8 (ao ?_)))))
 dsimp only
 show wpAny _ _ (if byT w=true then _ else _) _ _ _
 cases hb:byT w with
 |true=>
  rw[if_pos rfl,if_neg (by simp)]
  unfold setWalk v3
  refine aa (aa (gc ho rfl hf (aa (aa (i8 (ao ?_))))))
  dsimp only
  show wpAny _ _ (if byT w=true then _ else _) _ _ _
  rw[if_pos hb]
  refine aa (i8 (ao (ao ?_)))
  unfold cY at h
  rw[if_pos hb] at h
  have e1:cQ w ks (i+1)=slot:=by
   rw[hs]
   cases i with
   |zero=>simp[cQ,hb]
   |succ i=>simp[cQ,hb]
  rw[e1] at h
  exact h
 |false=>
  rw[if_neg (by simp)]
  rw[if_neg]
  rotate_left
  ·show ¬ ((!true && decide (es.size > 1))=true)
   simp
  refine aa (qp (a:=()) rfl ?_)
  refine ao ?_
  unfold cY at h
  rw[hb,if_neg (by simp)] at h
  obtain⟨z0,z1⟩:=aFS hE.1
  have eb:bg ks.toArray slot=i:=by
   rw[hs]
   cases i with
   |zero=>exact z0
   |succ i=>
    show bg ks.toArray (if byT w then 0 else ks.getD i 0+1)=i+1
    rw[hb,if_neg (by simp)]
    exact z1 i (by rw[<- hE.size];omega)
  show Q (match es[bg ks.toArray slot]?,ks.toArray[bg ks.toArray slot]? with
     |some (_,x),some j=>some (x,j+1)
     |_,_=>none) s
  rw[eb]
  by_cases c:i<es.size
  ·have c':i<ks.length:=by rw[<- hE.size];exact c
   rw[b8 c] at h ⊢
   rw[il,ah c']
   have e2:cQ w ks (i+1)=ks[i]+1:=by
    show(if byT w then 0 else ks.getD i 0+1)=_
    rw[hb,if_neg (by simp),ak,ah c']
    rfl
   rw[e2] at h
   exact h
  ·rw[gk (by omega)] at h ⊢
   exact h
theorem SIt.step {h:Heap}{it:Addr}{slot i n slot':Nat}(x:SIt it a slot i n ep h):SIt it a slot' (i+1) n ep ((h.update it (tm (·.setIfInBounds 0 (jb slot')))).update it (tm (·.setIfInBounds 1 (jb ((i:Int)+1))))):=by
 obtain⟨o,h1,h2,h3⟩:=x
 have d1:=kz h3 (·.setIfInBounds 0 (jb slot'))
 have g1:=jd (tm (·.setIfInBounds 0 (jb slot'))) h1 (ky d1)
 have d2:=kz d1 (·.setIfInBounds 1 (jb ((i:Int)+1)))
 exact⟨_,jd _ g1 (ky d2),(vw ..).trans ((vw ..).trans h2),by rw[d2];simp[jb]⟩
theorem SIt.typeIs {it:Addr}{slot i n:Nat}(x:SIt it a slot i n ep s.heap):s.TypeIs (.ref it) "set_iterator":=let⟨o,h1,h2,_⟩:=x;⟨o,h1,h2⟩
theorem aEo {it:Addr}{i:Nat}{Q:Option Value->Shared->Prop}(hit:SIt it a (cQ w ks i) i es.size ep s.heap)(ho:s.heap.get? a=some (smO w es ep ks))(hE:SmE es ks){e:Int×Value}(hx:(cY w a ep es)[i]?=some e)(hi:i<es.size)
  (q:∀h',SIt it a (cQ w ks (i+1)) (i+1) es.size ep h'->fg it s.heap h'->Q (some e.2) { s with heap:=h' }):wpAny (model prog w) A (qh (.ref it)) Q E s:=by
 have hf:(smT (!byT w) ks).fits es.size=true:=by rw[hE.size];exact iT hE.1 _
 have hT:=hit.typeIs
 obtain⟨oi,hi1,hi2,hi3⟩:=id hit
 unfold qh
 refine aa (mi (dz (name:=jy "__next__") hT bI (dt bI hT eB ?g (eG _))))
 case g=>
 unfold Builtin.«set_iterator.__next__» slotArgs
 refine aa (ao (aa (vh hi1 hi3 ?_)))
 refine aa (kr ho rfl hf ?_)
 rw[if_neg (by simp)]
 show wpAny _ _ (zo a (cQ w ks i:Int).toNat (i:Int).toNat (ep:Int).toNat >>= _) _ _ s
 rw[bu,bu,bu]
 refine aa (aAe ho hE rfl (ig hi) ?_)
 rw[hx]
 show wpAny _ _ (Aa (.ref it) 0 (jb (cQ w ks (i+1))) >>= _) _ _ s
 refine aa (lg hi1 hi3 (by simp) ?_)
 have d1:=kz hi3 (·.setIfInBounds 0 (jb (cQ w ks (i+1))))
 have g1:=jd (tm (·.setIfInBounds 0 (jb (cQ w ks (i+1))))) hi1 (ky d1)
 refine aa (lg g1 d1 (by simp) ?_)
 exact ao ⟨_,rfl,ao (q _ (SIt.step hit) ((f7 ..).trans (f7 ..)))⟩
theorem aFZ {it : Addr}{Q : Option Value -> Shared -> Prop} (hh : A.handled = none) (hit : SIt it a (cQ w ks es.size) es.size es.size ep s.heap) (ho : s.heap.get? a = some (smO w es ep ks)) (hE : SmE es ks)
    (q : ∀h', wm it s.heap h' -> Q none { s with heap := h' }) : wpAny (model prog w) A (qh (.ref it)) Q E s := by
  have hf : (smT (!byT w) ks).fits es.size = true := by rw[hE.size]; exact iT hE.1 _
  have hT := hit.typeIs
  obtain⟨oi, hi1, hi2, hi3⟩ := id hit
  unfold qh
  refine aa (mi (dz (name := jy "__next__") hT bI (dt bI hT eB ?g (eG _))))
  case g =>
  unfold Builtin.«set_iterator.__next__» slotArgs
  refine aa (ao (aa (vh hi1 hi3 ?_)))
  refine aa (kr ho rfl hf ?_)
  rw[if_neg (by simp)]
  show wpAny _ _ (zo a (cQ w ks es.size : Int).toNat (es.size : Int).toNat (ep : Int).toNat >>= _) _ _ s
  rw[bu, bu, bu]
  refine aa (aAe ho hE rfl (ba _) ?_)
  have hw : (cY w a ep es).size = es.size := by rw[<- cg, (eL w a ep es).length_eq, cg]
  rw[gk (by omega)]
  show wpAny _ _ (Aa (.ref it) 2 .none >>= _) _ _ s
  refine aa (lg hi1 hi3 (by simp) ?_)
  show wpAny _ _ (newExc (.type "StopIteration") [] >>= _) _ _ _
  simp only[newExc, newTuple]
  refine aa (aa (fc (aa (m := oh _ _) (qp (a := Value.none) (by first | rfl | (simp only[oh]; rfl)) (fc ?g (by size_fits)))) (by size_fits)))
  case g =>
  simp only[raiseNew]
  refine aa (zy ?g)
  case g =>
  rw[show A.in1.handled = none from hh]
  refine aa (ao (AQ ?z))
  case z => refine aa (j6 (T := "StopIteration") (b := true) ⟨_, ay _ rfl, rfl⟩ vg ?z)
            case z => exact ao (q _ (((f7 ..).extBut.push _).push _))
end
end L2
namespace L2
open PySem PySem.Spec PySem.W PyProof.Rows
theorem eF:Slot "set_iterator" "__iter__" "set_iterator.__iter__":=
 .of (owner:="set_iterator") (n:="__iter__") (by rw[typeLookup_type,ye];kernel_rfl) (by decide+kernel) (by decide+kernel) (by decide+kernel)
  (by first | exact .inl (by decide+kernel) | exact .inr (by decide+kernel)) (by rw[q9];kernel_rfl)
theorem hJ:entryFor table "set_iterator.__iter__" = some Builtin.«dict_keyiterator.__iter__»:=
 entryFor_alias (id':="dict_keyiterator.__iter__") (by kernel_rfl) rfl (by decide+kernel) (by kernel_rfl)
theorem iO (a:Value):argsOk "set_iterator.__iter__" ⟨[a],[]⟩:=by
 unfold argsOk;rw[signature?_of (id:="set_iterator.__iter__") (n:=['_','_','r','e','t','i','_','_']) (o:=['r','o','t','a','r','e','t','i','_','t','e','s']) (by kernel_rfl) oR];kernel_rfl
section
variable {prog:Program}{w:World}{A:Around}{E:Value->Shared->Prop}{s:Shared}{a:Addr}{es:Array (Int×Value)}{ep:Nat}{ks:List Nat}
theorem SIt.at {h h':Heap}{it:Addr}{sl i n:Nat}(x:SIt it a sl i n ep h)(e:∀o,h.get? it=some o->h'.get? it=some o):SIt it a sl i n ep h':=let⟨o,ho,r⟩:=x;⟨o,e _ ho,r⟩
theorem aEg (hh:A.handled=none)(I a:Addr)(hne:a≠I)(ep:Nat)(hE:SmE es ks) :
  Walks prog w A I [I,a] [I] es.size (λi v=>∃e,(cY w a ep es)[i]?=some e/\v=e.2) (λi h=>SIt I a (cQ w ks i) i es.size ep h/\h.get? a=some (smO w es ep ks)) where
 sub:=λb hb=>by simp at hb;simp[hb]
 frame:=λ_ _ _ st hk=>⟨st.1.at λo e=>hk I (by simp) o e,hk a (by simp) _ st.2⟩
 item:=λi s Q E hi st hQ=>by
  have hw:(cY w a ep es).size=es.size:=by rw[<- cg,(eL w a ep es).length_eq,cg]
  refine aEo st.1 st.2 hE (b8 (by omega)) hi λh' hit' hs'=>?_
  exact hQ _ h' s.toks ⟨_,b8 (by omega),rfl⟩ ⟨hit',by rw[hs'.2 a hne];exact st.2⟩ λb o hb e=>hs'.extBut b o (λh=>hb (by simp[h])) e
 done:=λs Q E st hQ=>aFZ hh st.1 st.2 hE λh' he'=>hQ h' s.toks λb o hb e=>he' b o (λh=>hb (by simp[h])) e
 self:=λi s Q E st hQ=>by
  have hT:s.TypeIs (.ref I) "set_iterator":=SIt.typeIs st.1
  refine qt hT eF (dt eF hT hJ ?_ (iO _))
  show wpAny _ _ (ret (.ref I)) _ _ s
  exact ao ⟨_,rfl,"set_iterator",_,hT,bI.lookup,hQ⟩
theorem aCk:∀{vs:List Value}{ms:List Nat},vs.length=ms.length->(∀i (h:i<ms.length),∃t,vs[i]?=some (.int (Int.ofNat ms[i]) t))->IntsAre vs (ms.map Int.ofNat)
 |[],[],_,_ => .nil
 |[],_ :: _,h,_=>by cases h
 |_ :: _,[],h,_=>by cases h
 |v :: vs,m :: ms,h,q=>by
  obtain⟨t,e⟩:=q 0 (Nat.zero_lt_succ _)
  obtain rfl:v = .int (Int.ofNat m) t:=by simpa using e
  exact .cons _ t (aCk (by simpa using h) λi hi=>by
   obtain⟨t',e'⟩:=q (i+1) (Nat.succ_lt_succ hi)
   exact⟨t',by simpa using e'⟩)
theorem aEm (hE:SmE es ks){acc:Array Value}(hA:ItemsOf (λi v=>∃e,(cY w a ep es)[i]?=some e/\v=e.2) acc es.size):∃ms:List Nat,ms.Perm ks/\IntsAre acc.toList (ms.map Int.ofNat):=by
 have hp:=eL w a ep es
 have hw:(cY w a ep es).size=es.size:=by rw[<- cg,hp.length_eq,cg]
 have hk:((cY w a ep es).toList.map (·.1)).Perm (ks.map Int.ofNat):=by rw[<- hE.2.1];exact hp.map _
 have hm:(((cY w a ep es).toList.map (·.1)).map Int.toNat).Perm ks:=by
  have:=hk.map Int.toNat
  rw[dr (f:=Int.ofNat)] at this
  have e:(Int.toNat∘Int.ofNat)=(id:Nat->Nat):=by funext k;rfl
  rwa[e,List.map_id] at this
 refine⟨_,hm,aCk ?_ ?_⟩
 ·rw[cg,hA.1,af,af,cg,hw]
 ·intro i hi
  have hi':i<(cY w a ep es).size:=by simpa using hi
  obtain⟨v,hv⟩:∃v,acc[i]?=some v:=⟨acc[i]'(by rw[hA.1,<- hw];exact hi'),b8 _⟩
  obtain⟨e,h1,h2⟩:=hA.2 i v hv
  have me:e∈es.toList:=hp.mem_iff.mp (by rw[b8 hi'] at h1;rw[<- az h1];exact Array.getElem_mem_toList _)
  obtain⟨t,z⟩:=hE.2.2 e me
  have m1:e.1∈ks.map Int.ofNat:=by rw[<- hE.2.1];exact ju me
  obtain⟨k,_,ek⟩:=bt.mp m1
  refine⟨t,?_⟩
  rw[k8,hv,h2,z]
  congr 2
  rw[b8 hi'] at h1
  have h1:=az h1
  simp only[jq,sa,h1]
  rw[<- ek];rfl
theorem aAo {Q:Bool->Shared->Prop}(hT:s.TypeIs (.ref a) "set")(h:Q false s):wpAny (model prog w) A (ue (.ref a)) Q E s:=by
 unfold ue
 refine aa (ng hT PySem.F.slot_set_len.lookup ?_)
 generalize hid:("set.__len__" : String)=id0
 wp_delta
 rw[show splitId id0=some ("set","__len__") from by subst hid;decide+kernel]
 subst hid
 refine aa (j6 (T:="set") (b:=true) hT (by rw[q9];kernel_rfl) ?_)
 refine wpAny_ite_split (λhab=>absurd hab (by decide)) (λ_=>?_)
 refine wpAny_ite_split (λ_=>?_) (λhab=>absurd (by decide+kernel) hab)
 refine aa (rh hT ?_)
 exact ao h
theorem aHE (hE:SmE es ks):KdlSrc prog w "set" a a es.size (λi v=>∃e,(cY w a ep es)[i]?=some e/\v=e.2) (λh=>h.get? a=some (smO w es ep ks)) where
 type:=λ_ hm=>⟨_,hm,rfl⟩
 there:=λ_ hm=>⟨bj hm,bj hm⟩
 keep:=λ_ _ hm hk=>hk a (.inl rfl) _ hm
 notList:=by decide
 notTuple:=by decide
 hint:=λ_ _ s _ hm hq=>aAo ⟨_,hm,rfl⟩ hq
 iter:=λA s hh hm=>⟨{ cls := .type "set_iterator",data := .fields #[jb 0,jb 0, .ref a,jb es.size,jb ep] },_,(λ_ _ hq=>aGQ hm (by rw[hE.size];exact iT hE.1 _) hq),aEg hh _ a (c6 (bj hm)) ep hE,⟨⟨_,ay _ rfl,rfl,rfl⟩,aj _ hm⟩⟩
theorem aAZ {Q:List Value->Shared->Prop}(hh:A.handled=none)(hS:zL w a ks s.heap)
  (hQ:∀(h':Heap) (tk:Nat) (acc:List Value) (ms:List Nat),ms.Perm ks->IntsAre acc (ms.map Int.ofNat)->(∀b o,s.heap.get? b=some o->h'.get? b=some o)->s.heap.objs.size<h'.objs.size->Q acc { s with heap:=h',toks:=tk }):wpAny (model prog w) A (AO (.ref a)) Q E s:=by
 obtain⟨es,ep,ho,hE⟩:=hS
 have l8:=(jJ hE.1).2.2
 have ha:a<s.heap.objs.size:=bj ho
 unfold AO
 let R1:w6->Shared->Prop:=λr s'=>∃h' tk acc c,r = .ok (.ret (.ref s.heap.objs.size))/\s'={ s with heap:=h',toks:=tk }/\h'.get? s.heap.objs.size=some { cls := .type "list",dict:=none,data := .seq acc c,slots:=#[] }/\(∀b o,s.heap.get? b=some o->h'.get? b=some o)/\ItemsOf (λi v=>∃e,(cY w a ep es)[i]?=some e/\v=e.2) acc es.size
 refine aa (qz (jm (R:=R1) ?_ ?_))
 ·refine gw yf ?_
  rw[ic yg _]
  show wpAny _ A.in1 (A2 [] >>= λl=>again (.builtin "list.__iadd__" ⟨[l, .ref a],[]⟩)) _ _ s
  refine aa (fc ?_)
  refine ao ⟨tf qu _,gw F.entry_list_iadd ?_⟩
  rw[ic qu _]
  have ho1:(s.heap.push { cls := .type "list",data := .seq ([]:List Value).toArray }).get? a=some (smO w es ep ks):=aj _ ho
  have hS₁:(s.heap.push { cls := .type "list",data := .seq ([]:List Value).toArray }).get? s.heap.objs.size=some { cls := .type "list",data := .seq ([]:List Value).toArray }:=ay _ rfl
  show wpAny _ A.in1 (kq (.ref s.heap.objs.size) (.ref a) (.ref s.heap.objs.size)) _ _ { s with heap:=s.heap.push { cls := .type "list",data := .seq ([]:List Value).toArray } }
  exact kdl_extend (R:=R1) (s:={ s with heap:=s.heap.push { cls := .type "list",data := .seq ([]:List Value).toArray } }) (aHE (prog:=prog) (w:=w) (a:=a) (ep:=ep) hE) hh ho1 s.heap.objs.size (ja ha) (ja ha) (.ref s.heap.objs.size) 0 hS₁ (λh' tk acc c hk hS' hA=>⟨h',tk,acc,c,rfl,rfl,hS',λb o e=>hk b o (c6 (bj e)) (aj _ e),hA⟩) (by rw[hE.size,jt];omega)
 ·rintro r s' ⟨h',tk,acc,c,rfl,rfl,hS',hk,hA⟩
  obtain⟨ms,hm,hI⟩:=aEm hE hA
  show wpAny _ A (load s.heap.objs.size >>= _) _ _ _
  refine aa (Ah hS' ?_)
  exact ao (hQ h' tk acc.toList ms hm hI hk (bj hS'))
theorem aBJ {ks:List Nat}{ns:List Int}(h1:ns.Perm (ks.map Int.ofNat))(h2:ns.Pairwise (·<=·))(h3:ks.Pairwise (· < ·)):ns=ks.map Int.ofNat:=by
 refine pk (le:=(·<=·)) (λa b _ _ x y=>uf x y) h2 ?_ h1
 rw[nr]
 exact h3.imp λx=>Int.ofNat_le.mpr (ig x)
theorem aCF {Q:Value->Shared->Prop}(hh:A.handled=none)(hS:zL w a ks s.heap)
  (q:∀(l:Addr) (h':Heap) (tk:Nat) (out:Array Value) (c:Nat),s.heap.objs.size<=l->(∀b o,s.heap.get? b=some o->h'.get? b=some o)->h'.get? l=some (jw "list" out c)->IntsAre out.toList (ks.map Int.ofNat)->Q (.ref l) { s with heap:=h',toks:=tk }):wpAny (model prog w) A (call (.builtin "sorted") [.ref a]) Q E s:=by
 obtain⟨_,_,_,hk8,_⟩:=id hS
 obtain⟨so,_,l8⟩:=jJ hk8
 refine ot AX AB AD (AE _) ?g1
 case g1=>
  unfold w9
  refine aa (m:=checkCount "sorted" 1 1 _) (ao (aa (aAZ hh hS λh1 tk acc ms hm hI hk hz=>?g2)))
  case g2=>
   have hl:acc.length=ks.length:=by rw[IntsAre.len hI,af,hm.length_eq]
   refine aa (qe ?g3 (by rw[hl,jt];omega))
   case g3=>
    have e2:(h1.push (jw "list" acc.toArray 0)).get? h1.objs.size=some (jw "list" acc.toArray 0):=ay _ rfl
    show wpAny _ _ _ _ _ { s with heap:=h1.push (jw "list" acc.toArray 0),toks:=tk }
    refine aa (fq (dt za ⟨_,e2,rfl⟩ yh (list_sort_tree (s:={ s with heap:=h1.push (jw "list" acc.toArray 0),toks:=tk }) e2 hI (by omega) λout ns' a1 a2 a3=>⟨_,rfl,ao ⟨_,rfl,?g4⟩⟩) (zb _)))
    case g4=>
     obtain⟨c,he⟩:=sortedHeap_at (vs:=acc) (out:=out) e2
     have en:=aBJ (a2.trans (hm.map _)) a3 so
     rw[en] at a1
     refine q h1.objs.size _ tk out c (ig hz) (λb o e=>?_) he a1
     have hb:b<h1.objs.size:=bj (hk b o e)
     rw[sortedHeap_old (c6 hb) (by rw[e8];exact fj hb)]
     exact aj _ (hk b o e)
end
section
variable {X:Cx}
def sK (ks:List Nat):List V:=ks.map λk=>V.int (Int.ofNat k)
def aHo (w:World) (K:ae):List V->Hp->VK->Prop:=λvs H Q=>∃(a:Addr) (ns:List Nat),vs=[.ref a]/\SqT K H a (sK ns)/\(∀k∈ns,k<8)/\∀p ks,H p=none->ks∈pH->(∀j,j∈ks↔j∈ns)->Q (.ref p) (upd H p (.ext (zL w p ks)))
def aFe (w:World):List V->Hp->VK->Prop:=λvs H Q=>∃(a:Addr) (ks:List Nat),vs=[.ref a]/\H a=some (.ext (zL w a ks))/\∀l,H l=none->Q (.ref l) (upd H l (.lst (sK ks)))
theorem aCi (hc:X.calm=true):CallR X (.type "set") (aHo X.w X.K):=by
 intro pins s σ H xs us Q I r ⟨a,ns,e,ha,h8,q⟩
 subst e
 obtain⟨u,rfl,ru⟩:=r.one
 obtain rfl:u=Value.ref a:=ru
 obtain⟨its,rv,pl,hz⟩:=I.tuple ha
 have hv:Vals ((ns.map Int.ofNat).map V.int) its:=by rw[dr];exact rv
 refine yV (items:=its.toArray) (ns:=ns) (I.ok.hd hc) pl (by simpa using aCo hv) h8 λh' tk ks d1 dm d2=>?_
 obtain⟨es,ep,o1,o2⟩:=id d1
 exact⟨.ref s.heap.objs.size,_,I.laid (a:=s.heap.objs.size) (o := .ext (zL X.w s.heap.objs.size ks)) (λb u e=>d2 b u (bj e) e) (ba _) ⟨d1,⟨_,o1⟩,λh1 h2 ⟨es,ep,z1,z2⟩ k=>⟨es,ep,k _ z1,z2⟩⟩,rfl,q _ _ (I.hok.fresh (ba _)) o2.1 dm⟩
theorem aBa (hc:X.calm=true):CallR X (.builtin "sorted") (aFe X.w):=by
 intro pins s σ H xs us Q I r ⟨a,ks,e,ha,q⟩
 subst e
 obtain⟨u,rfl,ru⟩:=r.one
 obtain rfl:u=Value.ref a:=ru
 have hS:zL X.w a ks s.heap:=(I.hok a _ ha).1
 obtain⟨_,_,_,hk8,_⟩:=id hS
 refine aCF (I.ok.hd hc) hS λl h' tk out c hl hk he hI=>?_
 have hv:Vals (sK ks) out.toList:=by
  have:=mZ hI
  rw[dr] at this
  exact this
 refine⟨.ref l,_,I.laid (a:=l) (t':=tk) (o := .lst (sK ks)) hk hl ⟨?_,out.toList,c,hv,by simpa using he⟩,rfl,q l (I.hok.fresh hl)⟩
 unfold sK
 rw[af,jt]
 have:=(jJ hk8).2.2
 omega
def rSS (K:ae):List V->Hp->VK->Prop:=λvs H Q=>∃(a:Addr) (ns:List Nat),vs=[.ref a]/\SqT K H a (sK ns)/\(∀k∈ns,k<8) /\
 ∀ks:List Nat,ks.Pairwise (· < ·)->(∀j,j∈ks↔j∈ns)->∀H',Same H H'->∀l,H' l=none->Q (.ref l) (upd H' l (.lst (sK ks)))
def tCl (t:TA):TA:=λσ H Q=>∃R:List V->Hp->Prop,t σ H R/\∀vs H1,R vs H1->Q vs H1
theorem aIY {es:List Expr}{t:TA}(h:PA X es t):PA X es (tCl t):=λpos pins s σ H Q I ⟨R,h1,h2⟩=>thn (h pos pins s σ H R I h1) λus s1 ⟨vs,H1,I1,r,q⟩=>⟨vs,H1,I1,r,h2 vs H1 q⟩
theorem aKc {K:ae}{x y:Str}{p p' pos pos':Pos}{e:Expr}{es:List Expr}{t:TA}(hK:X.K=K)(hc:X.calm=true)(hg:Gl X x)(hm:X.mg x=none)(hv:e9 x=some (.builtin "sorted"))(hg':Gl X y)(hm':X.mg y=none)(hv':e9 y=some (.type "set"))(ha:PA X (e :: es) t)
  (hn:x≠"__name__":=by decide) (hdb:(x == ("__debug__" : Str))=false:=by decide) (hn':y≠"__name__":=by decide) (hdb':(y == ("__debug__" : Str))=false:=by decide)
  (he:fi (e :: es) X.env=(false,eval e X.env) :: fi es X.env:=by rfl) (hpl:(vo pos' (fi es X.env)).any (·.1)=false:=by rfl):PE X (.Call (.Name x p) [.Call (.Name y p') (e :: es) [] pos'] [] pos) (tCB (rSS K) t):=by
 subst hK
 have h1:PE X (.Call (.Name x p) [.Call (.Name y p') (e :: es) [] pos'] [] pos) (tCB (aFe X.w) (aC (tCB (aHo X.w X.K) (tCl t)) aQ)):=aM (aBa hc) hg hm hv (cA (dS (aCi hc) hg' hm' hv' (aIY ha) hn' hdb' he hpl) aE) hn hdb
 intro pins s σ H Q I h
 refine h1 pins s σ H Q I ⟨_,h,λvs H1 ⟨a,ns,e1,e2,e3,e4⟩=>⟨a,ns,e1,e2,e3,λp ks hp hks hj=>?_⟩⟩
 exact⟨p,ks,rfl,aG,λl hl=>e4 ks (jJ hks).1 hj _ (aI hp _) l hl⟩
end
end L2
namespace L2
open PySem PySem.Spec PyProof.Rows
theorem DP.at {X:Cx}{pins:List (Addr×Obj)}{σ:St}{H:Hp}{s:Shared}{a:Addr}{xs:PEs}{ep:Nat}(I:Inv X pins σ H s)(d:DP H a xs ep) :
  s.TypeIs (.ref a) "dict"/\(∀b,Value.ref a = .ref b->∃ob,s.heap.get? b=some ob/\ob.dict=none)/\(a == yq)=false:=by
 obtain⟨_,hd,ys,_,dd⟩:=d.of I.hok
 refine⟨dd.typeIs,λb q=>?_,hd⟩
 cases q
 obtain⟨ob,_,_,h1,h2,_⟩:=dd
 exact⟨ob,h1,h2.2.1⟩
section
variable {X:Cx}{o e f:Expr}{apos cpos:Pos}{td ty tx:TE}
end
section
variable {X:Cx}
def yU (r r' r'':R2) (ta tb tc td:TE):TE:=λσ H Q=>ta σ H λx H1=>tb σ H1 λy H2=>r x y H2 λz H3=>∃k,z = .bl k /\
 (if k=true then tc σ H3 λw' H4=>r' y w' H4 λz2 H5=>∃k2,z2 = .bl k2/\(if k2=true then td σ H5 λu' H6=>r'' w' u' H6 Q else Q (.bl false) H5) else Q (.bl false) H3)
theorem vU {a b c d:Expr}{ta tb tc td:TE}{pos:Pos}{op op' op'':CmpOp}{r r' r'':R2}(ho:OpR X (gj op) r)(ho':OpR X (gj op') r')(ho'':OpR X (gj op'') r'')(ha:PE X a ta)(hb:PE X b tb)(hc:PE X c tc)(hd:PE X d td)
  (hm:lastMarks [op,op',op''] [b,c,d]=false:=by with_unfolding_all rfl):PE X (.Compare a [op,op',op''] [b,c,d] pos) (yU r r' r'' ta tb tc td):=by
 intro pins s σ H Q I h
 refine Compare_chain (thn (ha pins s σ H _ I h) λv s1 ⟨x,H1,I1,r1,q1⟩=>chain_link (thn (hb pins s1 σ H1 _ I1 q1) λu s2 ⟨y,H2,I2,r2,q2⟩=>
  thn (ho pins s2 σ H2 x y v u _ I2 r1 r2 q2) λd s3 ⟨z,H3,I3,r3,k,e,q3⟩=>?_)) hm
 subst e
 cases r3
 refine gm ?_
 cases k with
 |false=>exact ite_ff ⟨.bl false,H3,I3,rfl,q3⟩
 |true=>
  refine ite_tt (chain_link (thn (hc pins s3 σ H3 _ I3 q3) λw' s4 ⟨z',H4,I4,r4,q4⟩=>thn (ho' pins s4 σ H4 y z' u w' _ I4 r2 r4 q4) λd' s5 ⟨z2,H5,I5,r5,k2,e2,q5⟩=>?_))
  subst e2
  cases r5
  refine gm ?_
  cases k2 with
  |false=>exact ite_ff ⟨.bl false,H5,I5,rfl,q5⟩
  |true=>exact ite_tt (chain_last (thn (hd pins s5 σ H5 _ I5 q5) λw2 s6 ⟨z3,H6,I6,r6,q6⟩=>ho'' pins s6 σ H6 z' z3 w' w2 Q I6 r4 r6 q6))
end
open PySem.SeqAt PySem.MeetsSeq3
theorem aFV {r q:List Int}:eqL (r.map Dt.int) (q.map Dt.int)=decide (r=q):=by
 by_cases h:r=q
 ·subst h;rw[decide_eq_true rfl,fG]
 ·rw[decide_eq_false h]
  cases c:eqL (r.map Dt.int) (q.map Dt.int) with
  |false=>rfl
  |true=>exact absurd (nX c) h
section
variable {A:Around}{s:Shared}{l b:Addr}{us vs:List Value}{R S:List (List Int)}
end
open PySem.SeqAt PySem.MeetsSeq
open AutoSeq1 (wpAny_loadPart')
section
variable {X:Cx}
end
end L2
namespace L2
open PySem
section
variable {X:Cx}
end
end L2
namespace L2
open PySem PySem.Spec PyProof.Rows
section
variable {X:Cx}
end
section
variable {X:Cx}
end
end L2
namespace L2
open PySem PySem.W PyProof.Rows
open PySem.SeqAt
section
variable {prog:Program}{w:World}{A:Around}{E:Value->Shared->Prop}{s:Shared}
end
section
variable {X:Cx}
theorem aCQ (b:Bool)(bs:List Bool):((aq (bs.length+1)).any λj=>(b :: bs).getD j false)=(b || (aq bs.length).any λj=>bs.getD j false):=by
 rw[mw,nj,yi]
 rfl
theorem aDi (hc:X.calm=true):CallR X (.builtin "any") (λvs H Q=>∃(a:Addr) (bs:List Bool),vs=[.ref a]/\Sq X.K H a (bs.map V.bl)/\Q (.bl (bs.any id)) H):=by
 intro pins s σ H xs us Q I r ⟨a,bs,e,hq,q⟩
 subst e
 obtain⟨u,rfl,ru⟩:=r.one
 obtain rfl:u=Value.ref a:=ru
 refine call_any_walk (uK (I.ok.hd hc) I hq λits It fp wr S s2 rv hz W st hf hI=>?_)
 refine⟨It,fp,wr,its.length,_,S,λj=>bs.getD j false,rfl,W,st,λi v s' Q' E' hv hQ'=>?_,λh' tk hk=>?_⟩
 ·obtain⟨x,hx,rx⟩:=rv.getR hv
  rw[bh] at hx
  cases hb:bs[i]? with
  |none=>rw[hb] at hx;cases hx
  |some b=>
   rw[hb] at hx
   obtain rfl:V.bl b=x:=by simpa using hx
   obtain rfl:v=Value.bool b:=rx
   have:bs.getD i false=b:=by rw[ak,hb];rfl
   have hQ':Q' (bs.getD i false) s':=hQ'
   rw[this] at hQ'
   exact gm hQ'
 ·refine⟨.bl (bs.any id),H,hI h' tk hk,?_,q⟩
  show Value.bool _=Value.bool _
  congr 1
  have hl:its.length=bs.length:=by rw[<- rv.length,af]
  rw[hl]
  clear q hq rv hl hz
  induction bs with
  |nil=>rfl
  |cons b bs ih=>rw[cy,aCQ,nj];exact congrArg (λz=>b || z) ih
def Tri (K:ae) (H:Hp) (b:Addr) (row:List Int):Prop:=∃(q:Addr) (x y t z:Int),row=[x,y,t,z]/\SqT K H b [.int x, .int y, .ref q]/\SqT K H q ([t,z].map V.int)
def zD (K:ae) (H:Hp) (xs:List V) (T:List (List Int)):Prop:=xs.length=T.length/\∀(i:Nat) (row:List Int),T[i]?=some row->∃b,xs[i]?=some (.ref b)/\Tri K H b row
def aKz (K:ae):List V->Hp->VK->Prop:=λvs H Q=>∃(a:Addr) (bs:List Bool),vs=[.ref a]/\Sq K H a (bs.map V.bl)/\Q (.bl (bs.any id)) H
theorem vQ {K:ae}(hK:X.K=K)(hc:X.calm=true):CallR X (.builtin "any") (aKz K):=by subst hK;exact aDi hc
end
section
variable {X:Cx}{a b c d:Expr}{ta tb tc td:TE}{pos:Pos}
end
theorem aFF:e9 "any" = some (.builtin "any"):=by decide+kernel
end L2
namespace L2
open PySem PySem.Spec PyProof.Rows
section
variable {M:Model}{A:Around}{E:Value->Shared->Prop}{s:Shared}
end
section
variable {X:Cx}{pins:List (Addr×Obj)}{σ:St}{H:Hp}{s:Shared}{E:XK}{a:Addr}{cls a0:Value}{B h2:Heap}
end
section
variable {P:Program}{w:World}{K:ae}{mg:Str->Option Value}{base:Heap}{N:List Str}{qual:Str}{scope:Scope}{f:Addr}{cd:Value}{A:Around}{outer:List Env}{s₀:Shared}{H₀:Hp}{E:XK}
end
section
variable {X:Cx}
end
section
variable {X:Cx}{elt target iter:Expr}{ifs:List Expr}{rest:List Comprehension}{scope:Scope}{pos:Pos}{N':List Str}{ix:List (Option Nat)}{wi:TI}{g:TG}{ts:List TT}{tb:Addr->TS}{E:XK}
end
section
variable {prog:Program}{w:World}{A:Around}{E:Value->Shared->Prop}{s:Shared}
end
section
variable {prog:Program}{w:World}{A:Around}{s:Shared}{R:w6->Shared->Prop}
end
section
variable {prog:Program}{w:World}{A:Around}{E:Value->Shared->Prop}{s:Shared}
end
section
variable {X:Cx}{pins:List (Addr×Obj)}{σ:St}{H H2:Hp}{s:Shared}{h':Heap}
end
section
variable {prog:Program}{w:World}{A:Around}{R:w6->Shared->Prop}{It:Addr}{fp wr:List Addr}{n:Nat}{P:Nat->Value->Prop}{St:Nat->Heap->Prop}
end
section
variable {prog:Program}{w:World}{A:Around}{E:Value->Shared->Prop}{s:Shared}
end
theorem rX {pl:List Nat}(ris:pl.Pairwise (· < ·)){i m x y:Nat}(h:i<m)(hx:pl[i]?=some x)(hy:pl[m]?=some y):x<y:=by
 obtain⟨h1,rfl⟩:=ai.mp hx
 obtain⟨h2,rfl⟩:=ai.mp hy
 exact oq.mp ris i m h1 h2 h
theorem xZ {pl:List Nat}{j:Nat}(ris:pl.Pairwise (· < ·)):∀(f lo hi:Nat),hi<=pl.length->lo<=hi->hi - lo<=f->(∀i x,i<lo->pl[i]?=some x->x<j)->(∀i x,hi<=i->pl[i]?=some x->j<=x) ->
  nt pl.toArray j f lo hi<=pl.length/\(∀i x,i<nt pl.toArray j f lo hi->pl[i]?=some x->x<j)/\∀i x,nt pl.toArray j f lo hi<=i->pl[i]?=some x->j<=x
 |0,lo,hi,h1,h2,h3,h4,h5=>by
  have e:lo=hi:=by omega
  subst e
  rw[nt]
  exact⟨h1,h4,h5⟩
 |f+1,lo,hi,h1,h2,h3,h4,h5=>by
  rw[nt]
  by_cases c:lo<hi
  ·rw[if_pos c]
   have hm:(lo+hi) / 2<pl.length:=by omega
   have em:pl[(lo+hi) / 2]?=some pl[(lo+hi) / 2]:=ah hm
   have eg:pl.toArray.getD ((lo+hi) / 2) j=pl[(lo+hi) / 2]:=by
    rw[cq,il,em];rfl
   dsimp only
   rw[eg]
   by_cases d:pl[(lo+hi) / 2]<j
   ·rw[if_pos d]
    refine xZ ris f _ hi h1 (by omega) (by omega) (λi x hi' hx=>?_) h5
    by_cases q:i=(lo+hi) / 2
    ·subst q;rw[em] at hx;cases hx;exact d
    ·have:=rX ris (show i<(lo+hi) / 2 by omega) hx em;omega
   ·rw[if_neg d]
    refine xZ ris f lo _ (by omega) (by omega) (by omega) h4 λi x hi' hx=>?_
    by_cases q:i=(lo+hi) / 2
    ·subst q;rw[em] at hx;cases hx;omega
    ·have:=rX ris (show(lo+hi) / 2<i by omega) em hx;omega
  ·rw[if_neg c]
   have e:lo=hi:=by omega
   subst e
   exact⟨h1,h4,h5⟩
theorem gN {pl:List Nat}(ris:pl.Pairwise (· < ·))(j:Nat):bg pl.toArray j<=pl.length/\(∀i x,i<bg pl.toArray j->pl[i]?=some x->x<j)/\∀i x,bg pl.toArray j<=i->pl[i]?=some x->j<=x:=by
 unfold bg
 refine xZ ris _ 0 _ (by simp) (av _) (by simp) (λi x h=>absurd h (l9 _)) λi x h hx=>?_
 have:i<pl.length:=(ai.mp hx).1
 have:pl.toArray.size=pl.length:=by simp
 omega
theorem aEr {pl:List Nat}(ris:pl.Pairwise (· < ·)){i j:Nat}(h:pl[i]?=some j):bg pl.toArray j=i:=by
 obtain⟨b1,b2,b3⟩:=gN ris j
 rcases qv (bg pl.toArray j) i with c | c | c
 ·have hl:bg pl.toArray j<pl.length:=Nat.lt_trans c (ai.mp h).1
  have e:=ah hl
  have:=b3 _ _ (ba _) e
  have:=rX ris c e h
  omega
 ·exact c
 ·have:=b2 i j c h;omega
theorem aAW {pl:List Nat}(ris:pl.Pairwise (· < ·)){i j:Nat}(h:pl[i]?=some j):bg pl.toArray (j+1)=i+1:=by
 obtain⟨b1,b2,b3⟩:=gN ris (j+1)
 have hi:=(ai.mp h).1
 rcases qv (bg pl.toArray (j+1)) (i+1) with c | c | c
 ·have:=b3 i j (by omega) h;omega
 ·exact c
 ·have hl:i+1<pl.length:=by omega
  have e:=ah hl
  have:=b2 _ _ c e
  have:=rX ris (jo i) h e
  omega
theorem aBs {pl:List Nat}(ris:pl.Pairwise (· < ·)):bg pl.toArray 0=0:=by
 obtain⟨b1,b2,b3⟩:=gN ris 0
 refine cz λc=>?_
 have hl:0<pl.length:=by omega
 have:=b2 0 _ (by omega) (ah hl)
 omega
section
variable {t:SetTable}{pl:List Nat}
theorem slot_in (hp:t.place=pl.toArray)(ris:pl.Pairwise (· < ·)){i j:Nat}(h:pl[i]?=some j):t.slot j = .live i:=by
 unfold SetTable.slot
 rw[hp]
 dsimp only
 rw[aEr ris h,il,h,if_pos (by simp)]
theorem aEx (hp:t.place=pl.toArray)(hd:t.dummies=#[]){j:Nat}(h:j∉pl):t.slot j = .empty:=by
 unfold SetTable.slot
 rw[hp,hd]
 dsimp only
 have e1:(pl.toArray[bg pl.toArray j]? == some j)=false:=by
  rw[<- dq]
  intro z
  have:=t6 z
  rw[il] at this
  exact h (au this)
 have e2:yj #[] j=false:=by
  unfold yj
  rw[<- dq]
  intro z
  have:=t6 z
  simp at this
 rw[e1,e2]
 rfl
end
def rnL (mask i:Nat):List Nat:=(aq (i7 mask i+1 - i)).map (i + ·)
def aDL (mask:Nat):Nat->Nat->Nat->List Nat
 |0,_,_=>[]
 |f+1,i,p=>rnL mask i++aDL mask f (gg mask i p).1 (gg mask i p).2
inductive Fut (mask:Nat):SetTable.Probe->List Nat->Prop
 |nil (p):Fut mask p []
 |one (p) (x:Nat) (e:p.j=x):Fut mask p [x]
 |more (p:SetTable.Probe) (x:Nat) (L:List Nat) (e:p.j=x) (h0:0<p.more) (h:Fut mask { p with j:=p.j+1,more:=p.more - 1 } L):Fut mask p (x :: L)
 |leap (p:SetTable.Probe) (x:Nat) (L:List Nat) (e:p.j=x) (h0:p.more=0) (h:Fut mask { p with j:=(gg mask p.i p.perturb).1,more:=i7 mask (gg mask p.i p.perturb).1 - (gg mask p.i p.perturb).1,i:=(gg mask p.i p.perturb).1,perturb:=(gg mask p.i p.perturb).2 } L):Fut mask p (x :: L)
theorem aDt {mask i pt:Nat}{L:List Nat}(h:Fut mask { j:=(gg mask i pt).1,more:=i7 mask (gg mask i pt).1 - (gg mask i pt).1,i:=(gg mask i pt).1,perturb:=(gg mask i pt).2,dummy:=none } L) :
  ∀(m j:Nat),Fut mask { j:=j,more:=m,i:=i,perturb:=pt,dummy:=none } ((aq (m+1)).map (j + ·)++L)
 |0,j=>by
  show Fut mask _ ((j+0) :: L)
  exact .leap _ _ _ rfl rfl h
 |m+1,j=>by
  have e:(aq (m+1+1)).map (j + ·)=j :: (aq (m+1)).map (j+1 + ·):=by
   rw[mw,c4,dr]
   congr 1
   exact ug λx _=>by show j+(x+1)=j+1+x;omega
  rw[e]
  exact .more _ _ _ rfl (Nat.succ_pos _) (aDt h m (j+1))
theorem aCy {mask i:Nat}:i<=i7 mask i:=by unfold i7;split <;> omega
theorem sV {mask:Nat}:∀(f i pt:Nat),Fut mask { j:=i,more:=i7 mask i - i,i:=i,perturb:=pt,dummy:=none } (aDL mask f i pt)
 |0,i,pt => .nil _
 |f+1,i,pt=>by
  have:=aDt (sV f (gg mask i pt).1 (gg mask i pt).2) (i7 mask i - i) i
  show Fut mask _ ((aq (i7 mask i+1 - i)).map (i + ·)++_)
  have e:i7 mask i+1 - i=i7 mask i - i+1:=by have:=aCy (mask:=mask) (i:=i);omega
  rw[e]
  exact this
theorem aDf {t:SetTable}{pl:List Nat}(hp:t.place=pl.toArray)(hd:t.dummies=#[])(ris:pl.Pairwise (· < ·))(hs:Nat->Int)(h:Int):∀(L:List Nat) (f:Nat) (p:SetTable.Probe),Fut t.mask p L->p.dummy=none->L.length<=f->(∃x∈L,x∉pl) ->
  (∃L1 x L2,L=L1++x :: L2/\(∀y∈L1,y∈pl)/\x∉pl/\(∀i y,y∈L1->pl[i]?=some y->hs i≠h)/\v7 t hs h f p=some (.empty x none)) \/
  (∃L1 x L2 i nx,L=L1++x :: L2/\(∀y∈L1,y∈pl)/\pl[i]?=some x/\hs i=h/\v7 t hs h f p=some (.candidate x i nx))
 |[],f,p,_,_,_,⟨_,z,_⟩=>by cases z
 |x :: L,0,p,_,_,hl,_=>by simp at hl
 |x :: L,f+1,p,fu,pd,hl,⟨y,hy,hn⟩=>by
  have ej:p.j=x:=by cases fu <;> assumption
  rw[v7]
  by_cases hx:x∈pl
  ·obtain⟨i,hi⟩:=fh.mp hx
   rw[ej,slot_in hp ris hi]
   dsimp only
   by_cases c:hs i=h
   ·rw[if_pos (by simp[c])]
    exact .inr ⟨[],x,L,i,_,rfl,by simp,hi,c,rfl⟩
   ·rw[if_neg (by simp[c])]
    have hy:y∈L:=(cm.mp hy).resolve_left λe=>hn (e ▸ hx)
    have step:Fut t.mask (t.advance p) L/\(t.advance p).dummy=none:=by
     unfold SetTable.advance
     cases fu with
     |one=>cases hy
     |more _ _ _ _ h0 fu=>rw[if_pos h0];exact⟨fu,pd⟩
     |leap _ _ _ _ h0 fu=>rw[if_neg (by omega)];exact⟨fu,pd⟩
    have hl':L.length<=f:=by simpa using hl
    rcases aDf hp hd ris hs h L f _ step.1 step.2 hl' ⟨y,hy,hn⟩ with⟨L1,z,L2,e,q1,q2,q3,q4⟩ | ⟨L1,z,L2,k,nx,e,q1,q2,q3,q4⟩
    ·refine .inl ⟨x :: L1,z,L2,by rw[e];rfl,λv hv=>?_,q2,λi' v hv hi'=>?_,q4⟩
     ·rcases cm.mp hv with rfl | hv
      ·exact hx
      ·exact q1 v hv
     ·rcases cm.mp hv with rfl | hv
      ·have:i'=i:=by
        rcases qv i' i with q | q | q
        ·have:=rX ris q hi' hi;omega
        ·exact q
        ·have:=rX ris q hi hi';omega
       rw[this];exact c
      ·exact q3 i' v hv hi'
    ·refine .inr ⟨x :: L1,z,L2,k,nx,by rw[e];rfl,λv hv=>?_,q2,q3,q4⟩
     rcases cm.mp hv with rfl | hv
     ·exact hx
     ·exact q1 v hv
  ·rw[ej,aEx hp hd hx]
   dsimp only
   rw[pd]
   exact .inl ⟨[],x,L,rfl,by simp,hx,by simp,rfl⟩
def hT (k:List Int):Int:=yt (ft (k.map Ae))
def aJB:Nat->List (List Int)
 |0=>[[]]
 |n+1=>aJB n++(aJB n).map (· ++ [(n:Int)])
def K28:List (List Int):=((aJB 6).drop 1).take 62
def nR (mask:Nat):Nat:=if mask=7 then 22 else if mask=31 then 20 else 12
def SL (mask:Nat) (h:Int):List Nat:=aDL mask (nR mask) (mm h % (mask+1)) (mm h)
def aDE:List Nat->List Nat
 |[]=>[]
 |x :: l=>if(aDE l).contains x then aDE l else x :: aDE l
theorem tY:∀{l:List Nat}{x:Nat},x∈aDE l->x∈l
 |[],_,h=>h
 |y :: l,x,h=>by
  rw[aDE] at h
  split at h
  ·exact bf _ (tY h)
  ·rcases cm.mp h with rfl | h
   ·exact bp ..
   ·exact bf _ (tY h)
theorem yN:∀l:List Nat,(aDE l).Nodup
 |[]=>vi
 |x :: l=>by
  rw[aDE]
  split
  ·exact yN l
  ·rename_i h
   exact iz.mpr ⟨λz=>h (xy.mpr z),yN l⟩
theorem aGF {α:Type}[DecidableEq α]:∀(L M:List α),L.Nodup->(∀x∈L,x∈M)->L.length<=M.length
 |[],M,_,_=>av _
 |x :: L,M,nd,h=>by
  have nd':=iz.mp nd
  have hx:=h x (bp ..)
  have:=aGF L (M.erase x) nd'.2 λy hy=>(List.mem_erase_of_ne (λ(e:y=x)=>nd'.1 (by rw[<- e];exact hy))).mpr (h y (bf _ hy))
  rw[List.length_erase_of_mem hx] at this
  have:0<M.length:=List.length_pos_of_mem hx
  rw[cy]
  omega
def moM (mask:Nat):Nat:=if mask=7 then 5 else if mask=31 then 19 else 30
def slB (k:List Int) (m:Nat):Bool:=decide (moM m<=(aDE (SL m (hT k))).length) && decide ((SL m (hT k)).length<=10*mr m) && (SL m (hT k)).all λx=>decide (x<=m)
theorem aIZ:(K28.all λk=>slB k 7 && slB k 31 && slB k 127)=true:=by decide+kernel
theorem aJQ:(K28.all λk=>K28.all λk'=>k == k' || !(hT k == hT k'))=true:=by decide+kernel
theorem aFi {k k':List Int}(h:k∈K28)(h':k'∈K28)(e:hT k=hT k'):k=k':=by
 have:=bw.mp (bw.mp aJQ k h) k' h'
 rw[e,qg] at this
 rcases this with z | z
 ·exact t6 z
 ·simp at z
def M3 (mask:Nat):Prop:=mask=7\/mask=31\/mask=127
theorem aDM {k:List Int}(h:k∈K28){m:Nat}(hm:M3 m):moM m<=(aDE (SL m (hT k))).length/\(SL m (hT k)).length<=10*mr m/\∀x∈SL m (hT k),x<=m:=by
 have a:=bw.mp aIZ k h
 simp only[b7] at a
 have b:slB k m=true:=by
  rcases hm with rfl | rfl | rfl
  ·exact a.1.1
  ·exact a.1.2
  ·exact a.2
 unfold slB at b
 simp only[b7,decide_eq_true_eq,bw] at b
 exact⟨b.1.1,b.1.2,b.2⟩
theorem xW {k:List Int}(h:k∈K28){m:Nat}(hm:M3 m){pl:List Nat}(hl:pl.length<moM m):∃x∈SL m (hT k),x∉pl:=by
 refine cz λc=>?_
 have:=aGF (aDE (SL m (hT k))) pl (yN _) λx hx=>cz λz=>c ⟨x,tY hx,z⟩
 have:=(aDM h hm).1
 omega
def Rch (mask:Nat) (pl:List Nat) (h:Int) (j:Nat):Prop:=∃L1 L2,SL mask h=L1++j :: L2/\∀x∈L1,x∈pl
theorem Rch.mono {mask:Nat}{pl pl':List Nat}{h:Int}{j:Nat}(r:Rch mask pl h j)(s:∀x∈pl,x∈pl'):Rch mask pl' h j:=
 let⟨L1,L2,e,q⟩:=r;⟨L1,L2,e,λx hx=>s x (q x hx)⟩
abbrev Us:=List (List Int×Addr)
structure Ptb (mask:Nat)(pl:List Nat)(us:Us):Prop where
 m:M3 mask
 len:pl.length=us.length
 ris:pl.Pairwise (· < ·)
 nd:(us.map (·.1)).Nodup
 mem:∀u∈us,u.1∈K28
 lim:us.length<=28
 rch:∀(i:Nat) (u:List Int×Addr) (j:Nat),us[i]?=some u->pl[i]?=some j->Rch mask pl (hT u.1) j
def esO (us:Us):Array (Int×Value):=(us.map λu=>(hT u.1,Value.ref u.2)).toArray
section
variable {t:SetTable}{pl:List Nat}{us:Us}{k:List Int}
theorem aDl (us:Us){i:Nat}{u:List Int×Addr}(h:us[i]?=some u):((esO us)[i]?.map (·.1)).getD 0=hT u.1:=by
 unfold esO
 rw[il,bh,h]
 rfl
theorem aGD (hs:Nat->Int)(hh:∀(i:Nat) (u:List Int×Addr),us[i]?=some u->hs i=hT u.1)(P:Ptb t.mask pl us)(hp:t.place=pl.toArray)(hd:t.dummies=#[])(hl:pl.length<moM t.mask)(hk:k∈us.map (·.1)) :
  ∃j i nx u,us[i]?=some u/\u.1=k/\t.probe hs (hT k) (t.probeStart (hT k))=some (.candidate j i nx):=by
 obtain⟨u,hu,rfl⟩:=bt.mp hk
 obtain⟨i,hi⟩:=fh.mp hu
 have hil:i<pl.length:=by rw[P.len];exact(ai.mp hi).1
 have hj:=ah hil
 obtain⟨M1,M2,eS,hM⟩:=P.rch i u _ hi hj
 have fu:Fut t.mask (t.probeStart (hT u.1)) (SL t.mask (hT u.1)):=sV _ _ _
 unfold rg
 rcases aDf hp hd P.ris hs (hT u.1) _ _ _ fu rfl (aDM (P.mem u hu) P.m).2.1 (xW (P.mem u hu) P.m hl) with⟨L1,x,L2,e,q1,q2,q3,q4⟩ | ⟨L1,x,L2,i',nx,e,q1,q2,q3,q4⟩
 ·exfalso
  have hin:pl[i]∈L1:=by
   rw[eS] at e
   rcases List.append_eq_append_iff.mp e with⟨N,e1,e2⟩ | ⟨N,e1,e2⟩
   ·cases N with
    |nil=>
     simp at e2
     exact absurd (e2.1 ▸ f6 hil) q2
    |cons y N=>
     injection e2 with e3 e4
     rw[e1,e3]
     exact di _ (bp ..)
   ·cases N with
    |nil=>
     simp at e2
     exact absurd (e2.1.symm ▸ f6 hil) q2
    |cons y N=>
     injection e2 with e3 e4
     have:x∈M1:=by rw[e1,e3];exact di _ (bp ..)
     exact absurd (hM x this) q2
  exact q3 i _ hin hj (hh i u hi)
 ·have hil':i'<us.length:=by rw[<- P.len];exact(ai.mp q2).1
  have hi':=ah hil'
  refine⟨x,i',nx,us[i'],hi',?_,q4⟩
  rw[hh _ _ hi'] at q3
  exact aFi (P.mem _ (f6 hil')) (P.mem u hu) q3
theorem aEk (hs:Nat->Int)(hh:∀(i:Nat) (u:List Int×Addr),us[i]?=some u->hs i=hT u.1)(P:Ptb t.mask pl us)(hp:t.place=pl.toArray)(hd:t.dummies=#[])(hl:pl.length<moM t.mask)(hK:k∈K28)(hk:k∉us.map (·.1)) :
  ∃j,j∉pl/\Rch t.mask pl (hT k) j/\t.probe hs (hT k) (t.probeStart (hT k))=some (.empty j none):=by
 have fu:Fut t.mask (t.probeStart (hT k)) (SL t.mask (hT k)):=sV _ _ _
 unfold rg
 rcases aDf hp hd P.ris hs (hT k) _ _ _ fu rfl (aDM hK P.m).2.1 (xW hK P.m hl) with⟨L1,x,L2,e,q1,q2,q3,q4⟩ | ⟨L1,x,L2,i',nx,e,q1,q2,q3,q4⟩
 ·exact⟨x,q2,⟨L1,L2,e,q1⟩,q4⟩
 ·exfalso
  have hil':i'<us.length:=by rw[<- P.len];exact(ai.mp q2).1
  have hi':=ah hil'
  rw[hh _ _ hi'] at q3
  exact hk (bt.mpr ⟨_,f6 hil',aFi (P.mem _ (f6 hil')) hK q3⟩)
end
def qD {α:Type} (l:List α) (p:Nat) (x:α):List α:=l.take p++x :: l.drop p
theorem oI {α:Type}(l:List α)(p:Nat)(x:α):(qD l p x).Perm (x :: l):=by
 unfold qD
 refine List.perm_middle.trans ?_
 rw[ya]
theorem tN {α:Type}{l:List α}{p i:Nat}{x y:α}(hp:p<=l.length)(h:(qD l p x)[i]?=some y):(i<p/\l[i]?=some y)\/(i=p/\y=x)\/(p<i/\l[i - 1]?=some y):=by
 unfold qD at h
 have lt:(l.take p).length=p:=by rw[b9];omega
 rcases qv i p with c | c | c
 ·rw[c8 (by omega),lu c] at h
  exact .inl ⟨c,h⟩
 ·rw[c5 (by omega),lt,c,AF] at h
  exact .inr (.inl ⟨c,(az h).symm⟩)
 ·rw[c5 (by omega),lt] at h
  obtain⟨m,hm⟩:∃m,i - p=m+1:=⟨i - p - 1,by omega⟩
  rw[hm,List.getElem?_cons_succ,k9] at h
  exact .inr (.inr ⟨c,by rw[show i - 1=p+m by omega];exact h⟩)
theorem aEA {pl:List Nat}(ris:pl.Pairwise (· < ·)){j:Nat}(hj:j∉pl):(qD pl (bg pl.toArray j) j).Pairwise (· < ·):=by
 obtain⟨b1,b2,b3⟩:=gN ris j
 have f1:∀x∈pl.take (bg pl.toArray j),x<j:=λx hx=>by
  obtain⟨i,hi⟩:=fh.mp hx
  have hl:=(ai.mp hi).1
  rw[b9] at hl
  rw[lu (by omega)] at hi
  exact b2 i x (by omega) hi
 have f2:∀x∈pl.drop (bg pl.toArray j),j<x:=λx hx=>by
  obtain⟨i,hi⟩:=fh.mp hx
  rw[k9] at hi
  have:=b3 _ x (i9 _ _) hi
  have:x≠j:=λe=>hj (e ▸ au hi)
  omega
 unfold qD
 refine sd.mpr ⟨ris.take,uz.mpr ⟨f2,ris.drop⟩,λx hx y hy=>?_⟩
 have:=f1 x hx
 rcases cm.mp hy with rfl | hy
 ·exact this
 ·have:=f2 y hy;omega
section
variable {mask:Nat}{pl:List Nat}{us:Us}{k:List Int}
theorem Ptb.put (P:Ptb mask pl us){k:List Int}{a:Addr}(hK:k∈K28)(hk:k∉us.map (·.1)){j:Nat}(hj:j∉pl)(hr:Rch mask pl (hT k) j)(hlt:us.length<28):Ptb mask (qD pl (bg pl.toArray j) j) (qD us (bg pl.toArray j) (k,a)):=by
 obtain⟨b1,_,_⟩:=gN P.ris j
 have pp:=oI pl (bg pl.toArray j) j
 have pu:=oI us (bg pl.toArray j) (k,a)
 have sub:∀x∈pl,x∈qD pl (bg pl.toArray j) j:=λx hx=>pp.mem_iff.mpr (bf _ hx)
 refine⟨P.m,by rw[pp.length_eq,pu.length_eq,cy,cy,P.len],aEA P.ris hj,?_,λu hu=>?_,by rw[pu.length_eq,cy];omega,λi u x hu hx=>?_⟩
 ·refine(pu.map (·.1)).nodup_iff.mpr ?_
  exact iz.mpr ⟨hk,P.nd⟩
 ·rcases cm.mp (pu.mem_iff.mp hu) with rfl | hu
  ·exact hK
  ·exact P.mem u hu
 ·rcases tN (by rw[<- P.len];exact b1) hu with⟨c,h1⟩ | ⟨c,h1⟩ | ⟨c,h1⟩
  ·rcases tN b1 hx with⟨d,h2⟩ | ⟨d,h2⟩ | ⟨d,h2⟩
   ·exact(P.rch i u x h1 h2).mono sub
   ·omega
   ·omega
  ·rcases tN b1 hx with⟨d,h2⟩ | ⟨d,h2⟩ | ⟨d,h2⟩
   ·omega
   ·rw[h1,h2];exact hr.mono sub
   ·omega
  ·rcases tN b1 hx with⟨d,h2⟩ | ⟨d,h2⟩ | ⟨d,h2⟩
   ·omega
   ·omega
   ·exact(P.rch (i - 1) u x h1 h2).mono sub
theorem aGv (us:Us)(p:Nat)(k:List Int)(a:Addr):ma (esO us) p (hT k, .ref a)=esO (qD us p (k,a)):=by
 apply mq.mp
 rw[pg]
 unfold esO qD
 simp[nk,sr]
theorem aHZ (pl:List Nat)(p j:Nat):ma pl.toArray p j=(qD pl p j).toArray:=by
 apply mq.mp
 rw[pg]
 unfold qD
 simp
structure Ow (mask:Nat)(owner:Array (Option Nat))(ps:List Nat):Prop where
 sz:owner.size=mask+1
 at_:∀i j,ps[i]?=some j↔owner.getD j none=some i
theorem Ow.free {owner:Array (Option Nat)}{ps:List Nat}(O:Ow mask owner ps){x:Nat}(hx:x<=mask):(owner.getD x (some 0)).isNone=true↔x∉ps:=by
 have e:owner.getD x (some 0)=owner.getD x none:=by
  have:x<owner.size:=by rw[O.sz];omega
  rw[cq,cq,b8 this];rfl
 rw[e]
 constructor
 ·intro h z
  obtain⟨i,hi⟩:=fh.mp z
  rw[(O.at_ i x).mp hi] at h
  cases h
 ·intro h
  cases ho:owner.getD x none with
  |none=>rfl
  |some i=>exact absurd (au ((O.at_ i x).mpr ho)) h
theorem aBV {owner:Array (Option Nat)}{ps:List Nat}(O:Ow mask owner ps):∀(R F i pt:Nat),R<=F->(∀x∈aDL mask R i pt,x<=mask)->(∃x∈aDL mask R i pt,x∉ps)->∃L1 x L2,aDL mask R i pt=L1++x :: L2/\(∀y∈L1,y∈ps)/\x∉ps/\mx mask owner F i pt=some x
 |0,F,i,pt,_,_,⟨x,hx,_⟩=>by cases hx
 |R+1,0,i,pt,h,_,_=>by omega
 |R+1,F+1,i,pt,h,hm,⟨x,hx,hn⟩=>by
  rw[mx]
  have hm1:∀x∈rnL mask i,x<=mask:=λx hx=>hm x (j7 _ hx)
  cases hf:(aq (i7 mask i+1 - i)).find? (λk=>(owner.getD (i+k) (some 0)).isNone) with
  |some k=>
   dsimp only
   obtain⟨q1,as,bs,q2,q3⟩:=List.find?_eq_some_iff_append.mp hf
   have er:rnL mask i=as.map (i + ·)++(i+k) :: bs.map (i + ·):=by unfold rnL;rw[q2,bz,c4]
   refine⟨as.map (i + ·),i+k,bs.map (i + ·)++aDL mask R (gg mask i pt).1 (gg mask i pt).2,?_,λy hy=>?_,?_,rfl⟩
   ·show rnL mask i++_=_
    rw[er,gz];rfl
   ·obtain⟨m,hm',rfl⟩:=bt.mp hy
    have:=q3 m hm'
    refine cz λc=>?_
    have z:=(O.free (hm1 _ (by rw[er];exact j7 _ (ju hm')))).mpr c
    rw[z] at this
    cases this
   ·exact(O.free (hm1 _ (by rw[er];exact di _ (bp ..)))).mp q1
  |none=>
   dsimp only
   have all:∀y∈rnL mask i,y∈ps:=λy hy=>by
    have hy':=hm1 y hy
    unfold rnL at hy
    obtain⟨m,hm',rfl⟩:=bt.mp hy
    refine cz λc=>?_
    have:=List.find?_eq_none.mp hf m hm'
    exact this ((O.free hy').mpr c)
   have hx:x∈aDL mask R (gg mask i pt).1 (gg mask i pt).2:=by
    rcases du.mp hx with hx | hx
    ·exact absurd (all x hx) hn
    ·exact hx
   obtain⟨L1,y,L2,e,q1,q2,q3⟩:=aBV O R F _ _ (by omega) (λx hx=>hm x (di _ hx)) ⟨x,hx,hn⟩
   refine⟨rnL mask i++L1,y,L2,by show rnL mask i++_=_;rw[e,gz],λz hz=>?_,q2,q3⟩
   rcases du.mp hz with hz | hz
   ·exact all z hz
   ·exact q1 z hz
theorem Ow.step {owner:Array (Option Nat)}{ps:List Nat}(O:Ow mask owner ps){j:Nat}(hj:j∉ps)(hm:j<=mask):Ow mask (owner.setIfInBounds j (some ps.length)) (ps++[j]):=by
 refine⟨by rw[Array.size_setIfInBounds,O.sz],λi x=>?_⟩
 have hjs:j<owner.size:=by rw[O.sz];omega
 have e:(owner.setIfInBounds j (some ps.length)).getD x none=if j=x then some ps.length else owner.getD x none:=by
  rw[cq,cq,Array.getElem?_setIfInBounds]
  by_cases c:j=x
  ·subst c;rw[if_pos rfl,if_pos hjs,if_pos rfl];rfl
  ·rw[if_neg c,if_neg c]
 rw[e]
 by_cases c:j=x
 ·subst c
  rw[if_pos rfl]
  constructor
  ·intro h
   rcases AG i ps.length with d | d
   ·rw[c8 d] at h
    exact absurd (au h) hj
   ·have hl:=(ai.mp h).1
    rw[bc] at hl
    have:i=ps.length:=by simp at hl;omega
    rw[this]
  ·intro h
   cases h
   rw[c5 (ba _),AF];rfl
 ·rw[if_neg c,<- O.at_]
  constructor
  ·intro h
   rcases AG i ps.length with d | d
   ·rwa[c8 d] at h
   ·rw[c5 d] at h
    rcases dw.mp (au h) with rfl
    exact absurd rfl c
  ·intro h
   rw[c8 (ai.mp h).1];exact h
end
section
variable {mask:Nat}{pl:List Nat}{us:Us}
def aHf (mask:Nat) (acc:Option (Array (Option Nat)×Nat)) (h:Int):Option (Array (Option Nat)×Nat):=do
 let(owner,k) <- acc
 let j <- mx mask owner (mr mask) (mm h % (mask+1)) (mm h)
 pure (owner.setIfInBounds j (some k),k+1)
theorem aJR (mask:Nat):nR mask<=mr mask:=by
 unfold nR mr
 split
 ·omega
 ·split <;> omega
theorem aDg (hm:M3 mask):∀(vs:Us) (owner:Array (Option Nat)) (ps:List Nat),Ow mask owner ps->(∀u∈vs,u.1∈K28)->ps.length+vs.length<=moM mask ->
  ∃owner' qs,(vs.map λu=>hT u.1).foldl (aHf mask) (some (owner,ps.length))=some (owner',ps.length+vs.length)/\Ow mask owner' (ps++qs)/\qs.length=vs.length/\∀(i:Nat) (u:List Int×Addr) (j:Nat),vs[i]?=some u->qs[i]?=some j->Rch mask (ps++qs) (hT u.1) j
 |[],owner,ps,O,_,_=>⟨owner,[],rfl,by rw[gu];exact O,rfl,λi u j h=>by cases h⟩
 |u :: vs,owner,ps,O,hK,hl=>by
  rw[cy] at hl
  have hu:=hK u (bp ..)
  have sl:=aDM hu hm
  obtain⟨L1,x,L2,e,q1,q2,q3⟩:=aBV O (nR mask) (mr mask) (mm (hT u.1) % (mask+1)) (mm (hT u.1)) (aJR mask) sl.2.2 (xW hu hm (by omega))
  have hx:x<=mask:=sl.2.2 x (by show x∈aDL mask _ _ _;rw[e];exact di _ (bp ..))
  have O':=O.step q2 hx
  have ln:(ps++[x]).length=ps.length+1:=by rw[bc];rfl
  obtain⟨ow,qs,r1,r2,r3,r4⟩:=aDg hm vs _ (ps++[x]) O' (λv hv=>hK v (bf _ hv)) (by rw[ln];omega)
  have es:ps++[x]++qs=ps++x :: qs:=by rw[gz];rfl
  rw[es] at r2 r4
  refine⟨ow,x :: qs,?_,r2,by rw[cy,r3];rfl,λi v j hv hj=>?_⟩
  ·rw[c4,List.foldl_cons]
   have:aHf mask (some (owner,ps.length)) (hT u.1)=some (owner.setIfInBounds x (some ps.length),(ps++[x]).length):=by
    unfold aHf
    rw[ln]
    show(mx mask owner (mr mask) (mm (hT u.1) % (mask+1)) (mm (hT u.1)) >>= _)=_
    rw[q3]
    rfl
   rw[this,r1,ln,cy]
   congr 2
   omega
  ·cases i with
   |zero=>
    cases hv
    cases hj
    exact⟨L1,L2,e,λy hy=>j7 _ (q1 y hy)⟩
   |succ i=>exact r4 i v j hv hj
def kY (mask:Nat) (owner:Array (Option Nat)):List (Nat×Nat):=(aq (mask+1)).filterMap λj=>(owner.getD j none).map (j,·)
theorem aED {owner:Array (Option Nat)}{ps:List Nat}(O:Ow mask owner ps){j i:Nat}:(j,i)∈kY mask owner↔ps[i]?=some j:=by
 unfold kY
 rw[qb,O.at_]
 constructor
 ·rintro⟨x,_,h⟩
  obtain⟨y,hy,e⟩:=js.mp h
  cases e
  exact hy
 ·intro h
  refine⟨j,da.mpr ?_,by rw[h];rfl⟩
  refine cz λc=>?_
  rw[cq,gk (by rw[O.sz];omega)] at h
  cases h
theorem aAA (owner:Array (Option Nat)):(kY mask owner).Pairwise λa b=>a.1<b.1:=by
 unfold kY
 refine List.Pairwise.filterMap _ (λa b h x hx y hy=>?_) qk
 obtain⟨_,_,rfl⟩:=js.mp hx
 obtain⟨_,_,rfl⟩:=js.mp hy
 exact h
theorem aFb {α β:Type}{f:α->Option β}{g:α->β}:∀{l:List α},(∀x∈l,f x=some (g x))->l.filterMap f=l.map g
 |[],_=>rfl
 |x :: l,h=>by rw[List.filterMap_cons_some (h x (bp ..)),c4,aFb λy hy=>h y (bf _ hy)]
theorem aCN (P:Ptb mask pl us)(t:SetTable){wanted m':Nat}(hw:m7 wanted - 1=m')(hm:M3 m')(hl:us.length<=moM m'):∃pl' us' ord,t.relaid ((esO us).map (·.1)) wanted=some ({ mask:=m',place:=pl'.toArray,dummies:=#[],finger:=t.finger,led:=t.led,moves:=t.movedTo m',plain:=t.plain },ord)/\ord.filterMap ((esO us)[·]?)=esO us'/\Ptb m' pl' us'/\us'.Perm us:=by
 have O0:Ow m' (uh (m'+1) none) []:=by
  refine⟨by simp,λi j=>?_⟩
  constructor
  ·intro h
   simp at h
  ·intro h
   rw[cq] at h
   by_cases c:j<m'+1
   ·rw[b8 (by simpa using c)] at h
    simp at h
   ·rw[gk (by simpa using c)] at h
    cases h
 obtain⟨ow,ps,r1,O,r3,r4⟩:=aDg hm us _ [] O0 P.mem (by rw[kn];omega)
 rw[List.nil_append] at O r4
 have ml:=λj i=>aED O (j:=j) (i:=i)
 have sn:∀p∈kY m' ow,p.2<us.length:=λp hp=>by
  have:=(ml p.1 p.2).mp hp
  rw[<- r3]
  exact(ai.mp this).1
 have ond:((kY m' ow).map (·.2)).Nodup:=by
  rw[List.nodup_iff_pairwise_ne,nr]
  refine List.Pairwise.imp_of_mem (λ{a b} ha hb hab e=>?_) (aAA ow)
  have h1:=(ml a.1 a.2).mp ha
  have h2:=(ml b.1 b.2).mp hb
  rw[e] at h1
  rw[h1] at h2
  have:=az h2
  omega
 have operm:((kY m' ow).map (·.2)).Perm (aq us.length):=by
  refine(n4 ond List.nodup_range).mpr λi=>?_
  rw[bt,da]
  constructor
  ·rintro⟨p,hp,rfl⟩
   exact sn p hp
  ·intro hi
   have:=ah (show i<ps.length by omega)
   exact⟨(ps[i],i),(ml _ _).mpr this,rfl⟩
 have em:((kY m' ow).map (·.2)).filterMap (us[·]?)=(kY m' ow).map λp=>us.getD p.2 ([],0):=by
  rw[List.filterMap_map]
  refine aFb λp hp=>?_
  show us[p.2]?=_
  rw[ak,ah (sn p hp)]
  rfl
 have eu:(((kY m' ow).map (·.2)).filterMap (us[·]?)).Perm us:=by
  have:=operm.filterMap (us[·]?)
  rw[List.filterMap_getElem?_range_length us] at this
  exact this
 refine⟨(kY m' ow).map (·.1),((kY m' ow).map (·.2)).filterMap (us[·]?),((kY m' ow).map (·.2)).toArray,?_,?_,?_,eu⟩
 ·unfold SetTable.relaid SetTable.laid SetTable.layClean
  rw[hw]
  have eh:((esO us).map (·.1))=(us.map λu=>hT u.1).toArray:=by
   apply mq.mp
   unfold esO
   simp
  have ef:((us.map λu=>hT u.1).toArray.foldl (init:=some (uh (m'+1) none,0)) (aHf m')).map (·.1)=some ow:=by
   rw[<- Array.foldl_toList]
   show((us.map λu=>hT u.1).foldl (aHf m') (some (uh (m'+1) none,0))).map _=_
   have:=r1
   rw[kn] at this
   rw[this]
   rfl
  rw[eh]
  show((((us.map λu=>hT u.1).toArray.foldl (init:=some (uh (m'+1) none,0)) (aHf m')).map (·.1)) >>= λowner=>_)=_
  rw[ef]
  rfl
 ·apply mq.mp
  rw[xk]
  unfold esO
  rw[List.map_filterMap]
  congr 1
  funext i
  rw[il,bh]
 ·refine⟨hm,by rw[eu.length_eq,af,<- operm.length_eq.trans e7,af],?_,(eu.map _).nodup_iff.mpr P.nd,λu hu=>P.mem u (eu.mem_iff.mp hu),by rw[eu.length_eq];exact P.lim,λa u j hu hj=>?_⟩
  ·rw[nr];exact aAA ow
  ·rw[em,bh] at hu
   rw[bh] at hj
   obtain⟨p,hp,rfl⟩:=js.mp hj
   rw[hp] at hu
   have hpm:=au hp
   have hi:=sn p hpm
   have eu':us[p.2]?=some u:=by
    have:us.getD p.2 ([],0)=u:=az hu
    rw[ak,ah hi] at this
    rw[ah hi,<- this];rfl
   refine(r4 p.2 u p.1 eu' ((ml _ _).mp hpm)).mono λx hx=>?_
   obtain⟨i,hi⟩:=fh.mp hx
   exact bt.mpr ⟨(x,i),(ml _ _).mpr hi,rfl⟩
end
def spT (led:Bool) (mask:Nat) (pl:List Nat) (mv:Nat):SetTable:={ mask:=mask,place:=pl.toArray,dummies:=#[],finger:=0,led:=led,moves:=mv,plain:=true }
abbrev spO (w:World) (us:Us) (ep mask:Nat) (pl:List Nat) (mv:Nat):Obj:={ cls := .type "set",dict:=none,data := .set (esO us) ep (spT (!byT w) mask pl mv) }
def aAI (w:World) (a:Addr) (us:Us) (h:Heap):Prop:=∃ep mask pl mv,h.get? a=some (spO w us ep mask pl mv)/\Ptb mask pl us/\us.length*5<mask*3
theorem Ptb.few {mask:Nat}{pl:List Nat}{us:Us}(P:Ptb mask pl us):us.length<=28:=P.lim
theorem gU {mask:Nat}{pl:List Nat}{us:Us}(P:Ptb mask pl us)(h:us.length*5<mask*3+5)(led:Bool)(mv:Nat):(spT led mask pl mv).fits (esO us).size=true:=by
 have l:=P.len
 unfold spT SetTable.fits Ac esO
 simp only[ar,af,kn,AA,b7,beq_iff_eq,decide_eq_true_eq]
 refine⟨l,?_⟩
 rcases P.m with rfl | rfl | rfl <;> omega
theorem Ptb.room {mask:Nat}{pl:List Nat}{us:Us}(P:Ptb mask pl us)(h:us.length*5<mask*3):pl.length<moM mask:=by
 have:=P.few
 rw[P.len]
 rcases P.m with rfl | rfl | rfl
 ·show us.length<5;omega
 ·show us.length<19;omega
 ·show us.length<30;omega
section
variable {prog:Program}{w:World}{A:Around}{E:Value->Shared->Prop}{s:Shared}
theorem xH {k:List Int}{b:Addr}{m:Nat}{Q:Bool->Shared->Prop}(hk:iy (fm prog w) s.heap k b)(h:Q false s):wpAny (model prog w) A (qw (m+1) (.ref b)) Q E s:=by
 have hT:=hk.typeIs
 obtain⟨o,items,n,ho,_,hd,hi⟩:=hk
 unfold qw
 refine aa (rh hT ?_)
 dsimp only
 refine aa (ao ?_)
 simp only[jh,dk,if_false]
 refine aa (i5 ho hd ?_)
 dsimp only
 refine aa ?_
 rw[<- mz]
 refine mn _ (λrest r s'=>r.1=none/\s'=s/\∃ks:List Int,PySem.ItemsAre (fm prog w) ks rest) _ ?_ ?_ _ _ ⟨rfl,rfl,_,hi⟩
 ·rintro v rest r s' ⟨hr,rfl,ks,hall⟩
  cases hall with
  |cons hv hr'=>
   obtain⟨t,rfl⟩:=vm hv
   have e:∀z:Int,qw m (.int z t)=pure false:=λz=>by unfold qw;cases m <;> rfl
   rw[e]
   refine aa (ao ?_)
   simp only[dk,if_false]
   exact ao ⟨rfl,rfl,_,hr'⟩
 ·rintro⟨r1,r2⟩ s' ⟨hr,rfl,_⟩
  simp only at hr
  subst hr
  exact ao h
theorem aCq {k:List Int}{b:Addr}{m:Nat}{Q:Bool->Shared->Prop}(hk:iy (fm prog w) s.heap k b)(h:Q true s):wpAny (model prog w) A (zp (m+1) (.ref b)) Q E s:=by
 have hT:=hk.typeIs
 obtain⟨o,items,n,ho,_,hd,hi⟩:=hk
 unfold zp
 refine aa (ng hT nq.lookup ?_)
 dsimp only
 refine aa (i5 ho hd ?_)
 refine aa ?_
 show wpAny _ _ (forIn items _ _) _ _ s
 rw[<- mz]
 refine mn _ (λrest r s'=>r.1=none/\s'=s/\∃ks:List Int,PySem.ItemsAre (fm prog w) ks rest) _ ?_ ?_ _ _ ⟨rfl,rfl,_,hi⟩
 ·rintro v rest r s' ⟨hr,rfl,ks,hall⟩
  cases hall with
  |cons hv hr'=>
   obtain⟨t,rfl⟩:=vm hv
   have e:∀z:Int,zp m (.int z t)=pure true:=λz=>by unfold zp;cases m <;> rfl
   rw[e]
   refine aa (ao ?_)
   simp only[jh,dk,if_false]
   exact ao ⟨rfl,rfl,_,hr'⟩
 ·rintro⟨r1,r2⟩ s' ⟨hr,rfl,_⟩
  simp only at hr
  subst hr
  exact ao h
theorem aIH {k:List Int}{b:Addr}{Q:Bool->Shared->Prop}(hk:iy (fm prog w) s.heap k b)(ys:List Value)(hy:∀y∈ys,∃k' b',y = .ref b'/\iy (fm prog w) s.heap k' b')(h:Q false s):wpAny (model prog w) A (searchCouldBeSeen (.ref b) ys) Q E s:=by
 unfold searchCouldBeSeen
 refine aa ?_
 refine mn _ (λrest r s'=>r.1=none/\s'=s/\∀y∈rest,∃k' b',y = .ref b'/\iy (fm prog w) s.heap k' b') _ ?_ ?_ _ _ ⟨rfl,rfl,hy⟩
 ·rintro v rest r s' ⟨hr,rfl,hall⟩
  obtain⟨k',b',rfl,hk'⟩:=hall v bp
  have hall':∀y∈rest,∃k' b',y = .ref b'/\iy (fm prog w) s'.heap k' b':=λy hy=>hall y (bf _ hy)
  dsimp only
  split
  ·exact ao ⟨rfl,rfl,hall'⟩
  ·refine aa (yk hk ?_)
   simp only[jh,dk,if_false]
   refine aa (yk hk' ?_)
   simp only[jh,dk,if_false]
   refine aa (xH hk ?_)
   simp only[dk,if_false]
   refine aa (xH hk' ?_)
   simp only[dk,if_false]
   exact ao ⟨rfl,rfl,hall'⟩
 ·rintro⟨r1,r2⟩ s' ⟨hr,rfl,_⟩
  simp only at hr
  subst hr
  exact ao h
end
section
variable {prog:Program}{w:World}{A:Around}{E:Value->Shared->Prop}{s:Shared}{a b:Addr}{us:Us}{k:List Int}{ep mask mv:Nat}{pl:List Nat}
theorem aGS (P:Ptb mask pl us)(led:Bool):(spT led mask pl mv).gaveWay=false:=by
 rcases P.m with rfl | rfl | rfl
 ·show(7 % 2 == 0)=false;decide
 ·show(31 % 2 == 0)=false;decide
 ·show(127 % 2 == 0)=false;decide
theorem aCI {Q:SetFound->Shared->Prop}(hu:A.units<cLine)(ho:s.heap.get? a=some (spO w us ep mask pl mv))(P:Ptb mask pl us)(hf:us.length*5<mask*3)(hB:∀u∈us,iy (fm prog w) s.heap u.1 u.2)(hK:k∈K28)(hk:iy (fm prog w) s.heap k b)
  (q1:k∈us.map (·.1)->Q (.there none) s) (q2:k∉us.map (·.1)->∀j,j∉pl->Rch mask pl (hT k) j->Q (.free j false) s):wpAny (model prog w) A (setSearch a (.ref b) (hT k) (adding:=true)) Q E s:=by
 have fits:=gU P (by omega) (!byT w) mv
 unfold setSearch setSearchFrom
 refine aa (gc ho rfl fits ?_)
 dsimp only
 rw[if_neg (by rw[aGS P];exact bq)]
 by_cases hm:k∈us.map (·.1)
 ·obtain⟨j,i,nx,u,hi,ek,e⟩:=aGD (t:=spT (!byT w) mask pl mv) (λi=>((esO us)[i]?.map (·.1)).getD 0) (λi u h=>aDl us h) P rfl rfl (P.room hf) hm
  split
  ·rename_i met hmet
   have em:met = .candidate j i nx:=az (hmet.symm.trans e)
   subst em
   dsimp only
   have hu':=au hi
   have stored:∀y∈(((esO us).filter (·.1 == hT k)).toList.map (·.2)),∃k' b',y=Value.ref b'/\iy (fm prog w) s.heap k' b':=λy hy=>by
    obtain⟨z,hz,rfl⟩:=bt.mp hy
    rw[Array.toList_filter] at hz
    have hz:=(gf.mp hz).1
    unfold esO at hz
    obtain⟨v,hv,rfl⟩:=bt.mp hz
    exact⟨v.1,v.2,rfl,hB v hv⟩
   have ei:(esO us)[i]?=some (hT u.1, .ref u.2):=by unfold esO;rw[il,bh,hi];rfl
   rw[ei]
   dsimp only
   by_cases c:(!(spT (!byT w) mask pl mv).led)=true
   ·rw[if_pos c]
    refine aa (aIH hk _ stored ?_)
    rw[if_neg bq]
    refine aa (fq (u6 hu (hB u hu') hk ?_))
    refine aa (gc ho rfl fits ?_)
    dsimp only
    rw[if_pos (by simp[ek])]
    exact ao (q1 hm)
   ·rw[if_neg c]
    refine aa (fq (u6 hu (hB u hu') hk ?_))
    refine aa (gc ho rfl fits ?_)
    dsimp only
    rw[if_pos (by simp[ek])]
    exact ao (q1 hm)
  ·rename_i hno
   exact absurd e (hno _)
 ·obtain⟨j,hj,hr,e⟩:=aEk (t:=spT (!byT w) mask pl mv) (λi=>((esO us)[i]?.map (·.1)).getD 0) (λi u h=>aDl us h) P rfl rfl (P.room hf) hK hm
  split
  ·rename_i met hmet
   have em:met = .empty j none:=az (hmet.symm.trans e)
   subst em
   dsimp only
   exact ao (q2 hm j hj hr)
  ·rename_i hno
   exact absurd e (hno _)
theorem aHr (led:Bool)(j:Nat):(spT led mask pl mv).put j=(spT led mask (qD pl (bg pl.toArray j) j) mv,bg pl.toArray j):=by
 unfold SetTable.put spT
 have e2:yj #[] j=false:=by
  unfold yj
  rw[<- dq]
  intro z
  have:=t6 z
  simp at this
 dsimp only
 rw[e2,aHZ]
 rfl
theorem aFM (led:Bool):(spT led mask pl mv).tooFull=decide (pl.length*5≥mask*3):=by
 unfold SetTable.tooFull Ac spT
 simp
theorem aEa {us':Us}{m' wanted:Nat}{Q:Unit->Shared->Prop}(ho:s.heap.get? a=some (spO w us ep mask pl mv))(P:Ptb mask pl us)(hf:us.length*5<mask*3+5)(hw:m7 wanted - 1=m')(hz:¬ m7 wanted > bx)(hm:M3 m')(hl:us.length<=moM m')
  (q:∀h' us' ep' pl' mv',fg a s.heap h'->h'.get? a=some (spO w us' ep' m' pl' mv')->Ptb m' pl' us'->us'.Perm us->Q () { s with heap:=h' }):wpAny (model prog w) A (setRelay a wanted) Q E s:=by
 have fits:=gU P hf (!byT w) mv
 obtain⟨pl',us',ord,e1,e2,P',pm⟩:=aCN P (spT (!byT w) mask pl mv) hw hm hl
 unfold setRelay
 refine aa (gc ho rfl fits ?_)
 dsimp only
 rw[if_neg hz,e1]
 refine aa ?_
 have sz:(esO us').size=(esO us).size:=by unfold esO;simp[pm.length_eq]
 show wpAny _ _ (if((ord.filterMap ((esO us)[·]?)).size != (esO us).size)=true then _ else pure (ord.filterMap ((esO us)[·]?),_)) _ _ _
 rw[e2,if_neg (by simp[sz])]
 refine ao ?_
 have lz:(esO us').size<=bx:=by
  have:=P'.few
  unfold esO
  rw[ar,af,jt]
  omega
 refine qr ho rfl ?_ lz
 exact q _ us' _ pl' _ (f7 _ a _) (tU (ks:=[]) ho rfl) P' pm
theorem aIT {Q:Bool->Shared->Prop}(hu:A.units<cLine)(hS:aAI w a us s.heap)(hB:∀u∈us,iy (fm prog w) s.heap u.1 u.2)(hK:k∈K28)(hk:iy (fm prog w) s.heap k b)(hlt:k∉us.map (·.1)->us.length<28)
  (q:∀h' us' r,fg a s.heap h'->aAI w a us' h'->(k∈us.map (·.1)/\us'.Perm us\/k∉us.map (·.1)/\us'.Perm ((k,b) :: us))->Q r { s with heap:=h' }):wpAny (model prog w) A (yc a (.ref b) (hT k)) Q E s:=by
 obtain⟨ep,mask,pl,mv,ho,P,hf⟩:=hS
 have fits:=gU P (by omega) (!byT w) mv
 unfold yc setAddHashedIn
 refine fq (aa (gc ho rfl fits ?_))
 dsimp only
 rw[if_neg (by unfold byScan;simp[Value.scannable])]
 refine aa (aCI hu ho P hf hB hK hk (λhm=>?_) λhm j hj hr=>?_)
 ·dsimp only
  refine ao ?_
  have e:s={ s with heap:=s.heap }:=by cases s;rfl
  rw[e]
  exact q s.heap us _ (Heap.SameBut.refl a s.heap) ⟨ep,mask,pl,mv,ho,P,hf⟩ (.inl ⟨hm, .refl _⟩)
 ·dsimp only
  refine aa (gc ho rfl fits ?_)
  dsimp only
  rw[aHr]
  dsimp only
  rw[if_pos (show(spT (!byT w) mask (qD pl (bg pl.toArray j) j) mv).plain=true from rfl)]
  refine aa (aCq hk ?_)
  rw[if_pos rfl,aGv]
  have P1:=P.put (a:=b) hK hm hj hr (hlt hm)
  have pm:=oI us (bg pl.toArray j) (k,b)
  have ln:(qD us (bg pl.toArray j) (k,b)).length=us.length+1:=by rw[pm.length_eq,cy]
  have lp:(qD pl (bg pl.toArray j) j).length=us.length+1:=by rw[P1.len,ln]
  have few:=P1.few
  have lz:(esO (qD us (bg pl.toArray j) (k,b))).size<=bx:=by
   unfold esO
   rw[ar,af,jt]
   omega
  refine aa (qr ho rfl ?_ lz)
  have ho1:=tU (ks:=[]) (es':=esO (qD us (bg pl.toArray j) (k,b))) (t':=spT (!byT w) mask (qD pl (bg pl.toArray j) j) mv) ho rfl
  have sb1:=f7 s.heap a (Ar (esO (qD us (bg pl.toArray j) (k,b))) (spT (!byT w) mask (qD pl (bg pl.toArray j) j) mv))
  have ez:(esO us).size=us.length:=by unfold esO;rw[ar,af]
  rw[aFM,lp,ez]
  by_cases c:(us.length+1)*5≥mask*3
  ·rw[if_pos (by simp[c])]
   obtain⟨m',h1,h2,h3,h4,h5⟩:∃m',m7 (rf (us.length+1)) - 1=m'/\¬ m7 (rf (us.length+1)) > bx/\M3 m'/\us.length+1<=moM m'/\(us.length+1)*5<m'*3:=by
    rcases P.m with rfl | rfl | rfl
    ·have e:us.length=4:=by omega
     rw[e]
     exact⟨31,by decide+kernel,by rw[jt];decide+kernel, .inr (.inl rfl),by decide,by decide⟩
    ·have e:us.length=18:=by omega
     rw[e]
     exact⟨127,by decide+kernel,by rw[jt];decide+kernel, .inr (.inr rfl),by decide,by decide⟩
    ·omega
   refine aa (aEa (us':=us) ho1 P1 (by rw[ln];omega) h1 h2 h3 (by rw[ln];exact h4) λh' us' ep' pl' mv' sb2 ho2 P2 pm2=>?_)
   exact ao (q h' us' _ (sb1.trans sb2) ⟨ep',m',pl',mv',ho2,P2,by rw[pm2.length_eq,ln];exact h5⟩ (.inr ⟨hm,pm2.trans pm⟩))
  ·rw[if_neg (by simp[c])]
   exact ao (q _ _ _ sb1 ⟨_,mask,_,mv,ho1,P1,by rw[ln];omega⟩ (.inr ⟨hm,pm⟩))
end
theorem tF {prog:Program}{w:World}{h h':Heap}{k:List Int}{a:Addr}(x:iy (fm prog w) h k a)(e:∀o,h.get? a=some o->h'.get? a=some o):iy (fm prog w) h' k a:=
 let⟨o,items,n,ho,r⟩:=x;⟨o,items,n,e o ho,r⟩
section
variable {prog:Program}{w:World}{A:Around}{R:w6->Shared->Prop}{I:Addr}{fp wr:List Addr}{G:Array GenState->Array GenState->Prop}{n:Nat}{P:Nat->Value->Prop}{St:Nat->Shared->Prop}
theorem aGi (hu:A.units+1<cLine)(W:WalksS prog w A.in1 I fp wr G n P St)(S:Addr)(hSf:S∉fp)(val:Nat->List Int×Addr)(hval:∀i v,i<n->P i v->v = .ref (val i).2)(h8:∀i,i<n->(val i).1∈K28)(hV:∀i,i<n->(val i).2∉S :: wr)(h28:n<=28) :
  ∀(k i:Nat) (us:Us) (s:Shared),n - i=k->i<=n->St i s->aAI w S us s.heap->(∀m,m<n->iy (fm prog w) s.heap (val m).1 (val m).2)->(∀u∈us,∃m,m<i/\u=val m)->(∀m,m<i->(val m).1∈us.map (·.1)) ->
   (∀us' s',Moved (S :: wr) G s s'->aAI w S us' s'.heap->(∀u∈us',∃m,m<n/\u=val m)->(∀m,m<n->(val m).1∈us'.map (·.1))->R (.ok (.ret .none)) s') ->
   wg (model prog w) A (.builtin "set.update.loop" ⟨[.ref S, .ref I],[]⟩) R s:=by
 have hSw:S∉wr:=λh=>hSf (W.sub _ h)
 have hsub:∀b∈wr,b∈S :: wr:=λb hb=>bf _ hb
 have up:∀{us:Us}{s s':Shared},Moved wr G s s'->aAI w S us s.heap->aAI w S us s'.heap:=λhm ⟨ep,mk,pl,mv,ho,hE⟩=>⟨ep,mk,pl,mv,hm.heap S _ hSw ho,hE⟩
 intro k
 induction k with
 |zero=>
  intro i us s hk hi hst hS hB hm1 hm2 hR
  have hin:i=n:=by omega
  subst hin
  refine gw mj ?_
  rw[ic ji _]
  show wpAny _ A.in1 (qh (.ref I) >>= _) _ _ s
  refine aa (W.done s _ _ hst λs' hmv=>?_)
  show wpAny _ A.in1 (ret Value.none) _ _ s'
  exact ao (hR us s' (hmv.mono hsub) (up hmv hS) hm1 hm2)
 |succ k ih=>
  intro i us s hk hi hst hS hB hm1 hm2 hR
  have hlt:i<n:=by omega
  refine gw mj ?_
  rw[ic ji _]
  show wpAny _ A.in1 (qh (.ref I) >>= _) _ _ s
  refine aa (W.item i s _ _ hlt hst λv s' hP hst' hmv=>?_)
  obtain rfl:=hval i v hlt hP
  have hS':=up hmv hS
  have hB':∀m,m<n->iy (fm prog w) s'.heap (val m).1 (val m).2:=λm hm=>tF (hB m hm) λo e=>hmv.heap _ _ (λz=>hV m hm (bf _ z)) e
  have ul:us.length<=i:=by
   obtain⟨_,_,_,_,_,P',_⟩:=id hS'
   have:=aGF (us.map (·.1)) ((aq i).map λm=>(val m).1) P'.nd λk hk=>by
    obtain⟨u,hu',rfl⟩:=bt.mp hk
    obtain⟨m,hm,rfl⟩:=hm1 u hu'
    exact bt.mpr ⟨m,da.mpr hm,rfl⟩
   rw[af,af,e7] at this
   exact this
  show wpAny _ A.in1 (Ag [Value.ref (val i).2] (setAdd S (.ref (val i).2)) >>= _) _ _ s'
  refine aa (fq ?_)
  unfold setAdd
  refine fq ?_
  refine aa (wpAny_pyHash_tuple (show A.in1.units<cLine from hu) (hB' i hlt) ?_)
  refine aIT (s:={ s' with toks:=s'.toks+((val i).1.length+1) }) (k:=(val i).1) (show A.in1.units<cLine from hu) hS' (λu hu'=>by obtain⟨m,hm,rfl⟩:=hm1 u hu';exact hB' m (by omega)) (h8 i hlt) (hB' i hlt) (λ_=>by omega) λh' us' r hsb hS2 hcase=>?_
  have nm1:∀u∈us',∃m,m<i+1/\u=val m:=λu hu'=>by
   rcases hcase with⟨_,pm⟩ | ⟨_,pm⟩
   ·obtain⟨m,h1,h2⟩:=hm1 u (pm.mem_iff.mp hu')
    exact⟨m,by omega,h2⟩
   ·rcases cm.mp (pm.mem_iff.mp hu') with rfl | hu'
    ·exact⟨i,by omega,rfl⟩
    ·obtain⟨m,h1,h2⟩:=hm1 u hu'
     exact⟨m,by omega,h2⟩
  have nm2:∀m,m<i+1->(val m).1∈us'.map (·.1):=λm hm=>by
   rcases hcase with⟨hc,pm⟩ | ⟨_,pm⟩
   ·refine(pm.map (·.1)).mem_iff.mpr ?_
    rcases ph.mp hm with h1 | rfl
    ·exact hm2 m h1
    ·exact hc
   ·refine(pm.map (·.1)).mem_iff.mpr ?_
    rcases ph.mp hm with h1 | rfl
    ·exact bf _ (hm2 m h1)
    ·exact bp ..
  refine ao ⟨tf ji _,ih (i+1) _ _ (by omega) hlt (W.frame _ s' _ _ hst' (i9 _ _) λb hb o e=>?_) hS2 (λm hm=>tF (hB' m hm) λo e=>?_) nm1 nm2 λus'' s'' hm'' hS'' hks1 hks2=>?_⟩
  ·rw[hsb.2 b (λh:b=S=>hSf (by rw[<- h];exact hb))];exact e
  ·rw[hsb.2 _ (λh:(val m).2=S=>hV m hm (by rw[h];exact bp))];exact e
  ·refine hR us'' s'' (Moved.trans W.gtrans ((hmv.mono hsub).then_heap (i9 _ _) λb o hb e=>?_) hm'') hS'' hks1 hks2
   rw[hsb.2 b (λh:b=S=>hb (by rw[h];exact bp))];exact e
end
section
variable {prog:Program}{w:World}{A:Around}{E:Value->Shared->Prop}{s:Shared}
theorem aEn (h:Heap):aAI w h.objs.size [] (h.push (smO w #[] 0 [])):=⟨0,7,[],0,ay _ rfl,⟨.inl rfl,rfl, .nil,vi,(λu hu=>by cases hu),av _,λi u j h=>by cases h⟩,by decide⟩
end
end L2
namespace L2
open PySem PySem.W PySem.Spec PyProof.Rows
section
variable {prog:Program}{w:World}{A:Around}{E:Value->Shared->Prop}{s:Shared}{a:Addr}{us:Us}{ep mask mv:Nat}{pl:List Nat}
theorem vY {α β:Type}{f:α->β}{R' R:List β}(h:R'.Perm R):∀qs:List α,R=qs.map f->∃qs':List α,qs'.Perm qs/\R'=qs'.map f:=by
 induction h with
 |nil=>exact λqs e=>⟨[],by cases qs with | nil=>exact .nil | cons _ _=>simp at e,rfl⟩
 |cons x _ ih=>
  intro qs e
  cases qs with
  |nil=>simp at e
  |cons q qs=>
   rw[c4,ym] at e
   obtain⟨qs',p,e'⟩:=ih qs e.2
   exact⟨q :: qs',p.cons q,by rw[c4,e.1,e']⟩
 |swap x y _=>
  intro qs e
  cases qs with
  |nil=>simp at e
  |cons q qs=>
   cases qs with
   |nil=>simp at e
   |cons r qs=>
    simp only[c4,ym] at e
    exact⟨r :: q :: qs, .swap q r qs,by simp only[c4];rw[e.1,e.2.1,e.2.2]⟩
 |trans _ _ ih1 ih2=>
  intro qs e
  obtain⟨q2,p2,e2⟩:=ih2 qs e
  obtain⟨q1,p1,e1⟩:=ih1 q2 e2
  exact⟨q1,p1.trans p2,e1⟩
theorem aEN {Q:Bool->Shared->Prop}(ho:s.heap.get? a=some (spO w us ep mask pl mv))(hf:(spT (!byT w) mask pl mv).fits (esO us).size=true)(h:Q false s):wpAny (model prog w) A (setDrawn a) Q E s:=by
 unfold setDrawn v3
 refine aa (gc ho rfl hf (aa (aa (i8 (ao ?_)))))
 refine ao ?_
 have:(!(w.params.followText "set-order") && (!(spT (!byT w) mask pl mv).plain && decide ((esO us).size > 1)))=false:=by
  rw[show(spT (!byT w) mask pl mv).plain=true from rfl];simp
 exact this ▸ h
theorem aGO {Q:Value->Shared->Prop}(ho:s.heap.get? a=some (spO w us ep mask pl mv))(hf:(spT (!byT w) mask pl mv).fits (esO us).size=true)
  (h:Q (.ref s.heap.objs.size) { s with heap:=s.heap.push { cls := .type "set_iterator",data := .fields #[jb 0,jb 0, .ref a,jb (esO us).size,jb ep] } }):wpAny (model prog w) A (zv (.ref a)) Q E s:=by
 have hT:s.TypeIs (.ref a) "set":=⟨_,ho,rfl⟩
 refine qt hT ud (dt ud hT jF ?g (F.args_set_iter_1 _))
 case g=>
 unfold Builtin.«frozenset.__iter__» wx v5
 refine aa (aa (ao (ao ?_)))
 refine aa (aa (kr ho rfl hf (ao ?_)))
 refine aa (aEN ho hf ?_)
 rw[if_neg (by exact bq)]
 refine aa (ao (aa (wpAny_setEpoch_of ho rfl hf ?_)))
 unfold newFields
 refine aa (fc (ao ⟨_,rfl,"set_iterator",_,⟨_,ay _ rfl,rfl⟩,bI.lookup,?_⟩))
 exact h
theorem aCU {slot i:Nat}{Q:Option (Value×Nat)->Shared->Prop}(ho:s.heap.get? a=some (spO w us ep mask pl mv))(P:Ptb mask pl us)(hz:us.length*5<mask*3)(hs:slot=cQ w pl i)(hi:i<=(esO us).size)
  (h:Q (((cY w a ep (esO us))[i]?).map λe=>(e.2,cQ w pl (i+1))) s):wpAny (model prog w) A (zo a slot i ep) Q E s:=by
 have hf:(spT (!byT w) mask pl mv).fits (esO us).size=true:=gU P (by omega) (!byT w) mv
 have sz:(esO us).size=pl.length:=by unfold esO;rw[ar,af,P.len]
 unfold zo v3
 refine aa (gc ho rfl hf (aa (aa (i8 (ao ?_)))))
 dsimp only
 show wpAny _ _ (if byT w=true then _ else _) _ _ _
 cases hb:byT w with
 |true=>
  rw[if_pos rfl,if_neg (by simp)]
  unfold setWalk v3
  refine aa (aa (gc ho rfl hf (aa (aa (i8 (ao ?_))))))
  dsimp only
  show wpAny _ _ (if byT w=true then _ else _) _ _ _
  rw[if_pos hb]
  refine aa (i8 (ao (ao ?_)))
  unfold cY at h
  rw[if_pos hb] at h
  have e1:cQ w pl (i+1)=slot:=by
   rw[hs]
   cases i with
   |zero=>simp[cQ,hb]
   |succ i=>simp[cQ,hb]
  rw[e1] at h
  exact h
 |false=>
  rw[if_neg (by simp)]
  rw[if_neg]
  rotate_left
  ·show ¬ ((!true && decide ((esO us).size > 1))=true)
   simp
  refine aa (qp (a:=()) rfl ?_)
  refine ao ?_
  unfold cY at h
  rw[hb,if_neg (by simp)] at h
  have z0:=aBs P.ris
  have eb:bg pl.toArray slot=i:=by
   rw[hs]
   cases i with
   |zero=>exact z0
   |succ i=>
    show bg pl.toArray (if byT w then 0 else pl.getD i 0+1)=i+1
    rw[hb,if_neg (by simp)]
    have hi':i<pl.length:=by rw[<- sz];omega
    rw[ak,ah hi']
    exact aAW P.ris (ah hi')
  show Q (match (esO us)[bg pl.toArray slot]?,pl.toArray[bg pl.toArray slot]? with
     |some (_,x),some j=>some (x,j+1)
     |_,_=>none) s
  rw[eb]
  by_cases c:i<(esO us).size
  ·have c':i<pl.length:=by rw[<- sz];exact c
   rw[b8 c] at h ⊢
   rw[il,ah c']
   have e2:cQ w pl (i+1)=pl[i]+1:=by
    show(if byT w then 0 else pl.getD i 0+1)=_
    rw[hb,if_neg (by simp),ak,ah c']
    rfl
   rw[e2] at h
   exact h
  ·rw[gk (by omega)] at h ⊢
   exact h
theorem aEe {it:Addr}{i:Nat}{Q:Option Value->Shared->Prop}(hit:SIt it a (cQ w pl i) i (esO us).size ep s.heap)(ho:s.heap.get? a=some (spO w us ep mask pl mv))(P:Ptb mask pl us)(hz:us.length*5<mask*3){e:Int×Value}(hx:(cY w a ep (esO us))[i]?=some e)(hi:i<(esO us).size)
  (q:∀h',SIt it a (cQ w pl (i+1)) (i+1) (esO us).size ep h'->fg it s.heap h'->Q (some e.2) { s with heap:=h' }):wpAny (model prog w) A (qh (.ref it)) Q E s:=by
 have hf:(spT (!byT w) mask pl mv).fits (esO us).size=true:=gU P (by omega) (!byT w) mv
 have hT:=hit.typeIs
 obtain⟨oi,hi1,hi2,hi3⟩:=id hit
 unfold qh
 refine aa (mi (dz (name:=jy "__next__") hT bI (dt bI hT eB ?g (eG _))))
 case g=>
 unfold Builtin.«set_iterator.__next__» slotArgs
 refine aa (ao (aa (vh hi1 hi3 ?_)))
 refine aa (kr ho rfl hf ?_)
 rw[if_neg (by simp)]
 show wpAny _ _ (zo a (cQ w pl i:Int).toNat (i:Int).toNat (ep:Int).toNat >>= _) _ _ s
 rw[bu,bu,bu]
 refine aa (aCU ho P hz rfl (ig hi) ?_)
 rw[hx]
 show wpAny _ _ (Aa (.ref it) 0 (jb (cQ w pl (i+1))) >>= _) _ _ s
 refine aa (lg hi1 hi3 (by simp) ?_)
 have d1:=kz hi3 (·.setIfInBounds 0 (jb (cQ w pl (i+1))))
 have g1:=jd (tm (·.setIfInBounds 0 (jb (cQ w pl (i+1))))) hi1 (ky d1)
 refine aa (lg g1 d1 (by simp) ?_)
 exact ao ⟨_,rfl,ao (q _ (SIt.step hit) ((f7 ..).trans (f7 ..)))⟩
theorem aGh {it : Addr}{Q : Option Value -> Shared -> Prop} (hh : A.handled = none) (hit : SIt it a (cQ w pl (esO us).size) (esO us).size (esO us).size ep s.heap) (ho : s.heap.get? a = some (spO w us ep mask pl mv)) (P : Ptb mask pl us) (hz : us.length * 5 < mask * 3)
    (q : ∀h', wm it s.heap h' -> Q none { s with heap := h' }) : wpAny (model prog w) A (qh (.ref it)) Q E s := by
  have hf : (spT (!byT w) mask pl mv).fits (esO us).size = true := gU P (by omega) (!byT w) mv
  have hT := hit.typeIs
  obtain⟨oi, hi1, hi2, hi3⟩ := id hit
  unfold qh
  refine aa (mi (dz (name := jy "__next__") hT bI (dt bI hT eB ?g (eG _))))
  case g =>
  unfold Builtin.«set_iterator.__next__» slotArgs
  refine aa (ao (aa (vh hi1 hi3 ?_)))
  refine aa (kr ho rfl hf ?_)
  rw[if_neg (by simp)]
  show wpAny _ _ (zo a (cQ w pl (esO us).size : Int).toNat ((esO us).size : Int).toNat (ep : Int).toNat >>= _) _ _ s
  rw[bu, bu, bu]
  refine aa (aCU ho P hz rfl (ba _) ?_)
  have hw : (cY w a ep (esO us)).size = (esO us).size := by rw[<- cg, (eL w a ep (esO us)).length_eq, cg]
  rw[gk (by omega)]
  show wpAny _ _ (Aa (.ref it) 2 .none >>= _) _ _ s
  refine aa (lg hi1 hi3 (by simp) ?_)
  show wpAny _ _ (newExc (.type "StopIteration") [] >>= _) _ _ _
  simp only[newExc, newTuple]
  refine aa (aa (fc (aa (m := oh _ _) (qp (a := Value.none) (by first | rfl | (simp only[oh]; rfl)) (fc ?g (by size_fits)))) (by size_fits)))
  case g =>
  simp only[raiseNew]
  refine aa (zy ?g)
  case g =>
  rw[show A.in1.handled = none from hh]
  refine aa (ao (AQ ?z))
  case z => refine aa (j6 (T := "StopIteration") (b := true) ⟨_, ay _ rfl, rfl⟩ vg ?z)
            case z => exact ao (q _ (((f7 ..).extBut.push _).push _))
theorem aDU (hh:A.handled=none)(I a:Addr)(hne:a≠I)(ep:Nat)(P:Ptb mask pl us)(hz:us.length*5<mask*3) :
  Walks prog w A I [I,a] [I] (esO us).size (λi v=>∃e,(cY w a ep (esO us))[i]?=some e/\v=e.2) (λi h=>SIt I a (cQ w pl i) i (esO us).size ep h/\h.get? a=some (spO w us ep mask pl mv)) where
 sub:=λb hb=>by simp at hb;simp[hb]
 frame:=λ_ _ _ st hk=>⟨st.1.at λo e=>hk I (by simp) o e,hk a (by simp) _ st.2⟩
 item:=λi s Q E hi st hQ=>by
  have hw:(cY w a ep (esO us)).size=(esO us).size:=by rw[<- cg,(eL w a ep (esO us)).length_eq,cg]
  refine aEe st.1 st.2 P hz (b8 (by omega)) hi λh' hit' hs'=>?_
  exact hQ _ h' s.toks ⟨_,b8 (by omega),rfl⟩ ⟨hit',by rw[hs'.2 a hne];exact st.2⟩ λb o hb e=>hs'.extBut b o (λh=>hb (by simp[h])) e
 done:=λs Q E st hQ=>aGh hh st.1 st.2 P hz λh' he'=>hQ h' s.toks λb o hb e=>he' b o (λh=>hb (by simp[h])) e
 self:=λi s Q E st hQ=>by
  have hT:s.TypeIs (.ref I) "set_iterator":=SIt.typeIs st.1
  refine qt hT eF (dt eF hT hJ ?_ (iO _))
  show wpAny _ _ (ret (.ref I)) _ _ s
  exact ao ⟨_,rfl,"set_iterator",_,hT,bI.lookup,hQ⟩
theorem aIU (P:Ptb mask pl us)(hz:us.length*5<mask*3):KdlSrc prog w "set" a a (esO us).size (λi v=>∃e,(cY w a ep (esO us))[i]?=some e/\v=e.2) (λh=>h.get? a=some (spO w us ep mask pl mv)) where
 type:=λ_ hm=>⟨_,hm,rfl⟩
 there:=λ_ hm=>⟨bj hm,bj hm⟩
 keep:=λ_ _ hm hk=>hk a (.inl rfl) _ hm
 notList:=by decide
 notTuple:=by decide
 hint:=λ_ _ s _ hm hq=>aAo ⟨_,hm,rfl⟩ hq
 iter:=λA s hh hm=>⟨{ cls := .type "set_iterator",data := .fields #[jb 0,jb 0, .ref a,jb (esO us).size,jb ep] },_,(λ_ _ hq=>aGO hm (gU P (by omega) (!byT w) mv) hq),aDU hh _ a (c6 (bj hm)) ep P hz,⟨⟨_,ay _ rfl,rfl,rfl⟩,aj _ hm⟩⟩
theorem aBq {Q:List Value->Shared->Prop}(hh:A.handled=none)(ho:s.heap.get? a=some (spO w us ep mask pl mv))(P:Ptb mask pl us)(hz:us.length*5<mask*3)
  (hQ:∀(h':Heap) (tk:Nat) (us':Us),us'.Perm us->(∀b o,s.heap.get? b=some o->h'.get? b=some o)->s.heap.objs.size<h'.objs.size->Q (us'.map λu=>Value.ref u.2) { s with heap:=h',toks:=tk }):wpAny (model prog w) A (AO (.ref a)) Q E s:=by
 have few:=P.few
 have ha:a<s.heap.objs.size:=bj ho
 unfold AO
 let R1:w6->Shared->Prop:=λr s'=>∃h' tk acc c,r = .ok (.ret (.ref s.heap.objs.size))/\s'={ s with heap:=h',toks:=tk }/\h'.get? s.heap.objs.size=some { cls := .type "list",dict:=none,data := .seq acc c,slots:=#[] }/\(∀b o,s.heap.get? b=some o->h'.get? b=some o)/\ItemsOf (λi v=>∃e,(cY w a ep (esO us))[i]?=some e/\v=e.2) acc (esO us).size
 refine aa (qz (jm (R:=R1) ?_ ?_))
 ·refine gw yf ?_
  rw[ic yg _]
  show wpAny _ A.in1 (A2 [] >>= λl=>again (.builtin "list.__iadd__" ⟨[l, .ref a],[]⟩)) _ _ s
  refine aa (fc ?_)
  refine ao ⟨tf qu _,gw F.entry_list_iadd ?_⟩
  rw[ic qu _]
  have ho1:(s.heap.push { cls := .type "list",data := .seq ([]:List Value).toArray }).get? a=some (spO w us ep mask pl mv):=aj _ ho
  have hS₁:(s.heap.push { cls := .type "list",data := .seq ([]:List Value).toArray }).get? s.heap.objs.size=some { cls := .type "list",data := .seq ([]:List Value).toArray }:=ay _ rfl
  show wpAny _ A.in1 (kq (.ref s.heap.objs.size) (.ref a) (.ref s.heap.objs.size)) _ _ { s with heap:=s.heap.push { cls := .type "list",data := .seq ([]:List Value).toArray } }
  exact kdl_extend (R:=R1) (s:={ s with heap:=s.heap.push { cls := .type "list",data := .seq ([]:List Value).toArray } }) (aIU (prog:=prog) (w:=w) (a:=a) (ep:=ep) P hz) hh ho1 s.heap.objs.size (ja ha) (ja ha) (.ref s.heap.objs.size) 0 hS₁ (λh' tk acc c hk hS' hA=>⟨h',tk,acc,c,rfl,rfl,hS',λb o e=>hk b o (c6 (bj e)) (aj _ e),hA⟩) (by unfold esO;rw[ar,af,jt];omega)
 ·rintro r s' ⟨h',tk,acc,c,rfl,rfl,hS',hk,hA⟩
  have hp:=eL w a ep (esO us)
  obtain⟨us',pm,eu⟩:=vY (f:=λu:List Int×Addr=>(hT u.1,Value.ref u.2)) hp us (by unfold esO;rfl)
  have ea:acc.toList=us'.map λu=>Value.ref u.2:=by
   have e1:acc.toList=(cY w a ep (esO us)).toList.map (·.2):=by
    apply v8
    intro i
    rw[bh,k8,k8]
    by_cases c:i<acc.size
    ·obtain⟨e,h1,h2⟩:=hA.2 i acc[i] (b8 c)
     rw[b8 c,h1,h2];rfl
    ·have hw:(cY w a ep (esO us)).size=(esO us).size:=by rw[<- cg,hp.length_eq,cg]
     rw[gk (by omega),gk (by have:=hA.1;omega)];rfl
   rw[e1,eu,dr];rfl
  show wpAny _ A (load s.heap.objs.size >>= _) _ _ _
  refine aa (Ah hS' ?_)
  show wpAny _ _ (pure acc.toList) _ _ _
  rw[ea]
  exact ao (hQ h' tk us' pm hk (bj hS'))
end
end L2
namespace L2
open PySem PySem.Spec PySem.W PyProof.Rows
theorem aHS:∀k∈K28,k≠[]:=by decide+kernel
theorem aFf {prog:Program}{w:World}:∀{vs:List Value}{ns:List Int},IntsAre vs ns->PySem.ItemsAre (fm prog w) ns vs
 |_,_, .nil => .nil
 |_,_, .cons n t r => .cons (vz prog w n t) (aFf r)
section
variable {prog:Program}{w:World}{A:Around}{E:Value->Shared->Prop}{s:Shared}{a:Addr}{us:Us}{ep mask mv:Nat}{pl:List Nat}
theorem uC {α β:Type}{d:α}{e:β}(f:α->β){l:List α}:∀{ix:List Nat},(∀i∈ix,i<l.length)->(ix.map λi=>(l.map f).getD i e)=(ix.map λi=>l.getD i d).map f
 |[],_=>rfl
 |i :: ix,h=>by
  have hi:=h i (bp ..)
  rw[c4,c4,c4,uC (d:=d) f λj hj=>h j (bf _ hj)]
  congr 1
  rw[ak,ak,bh,ah hi]
  rfl
theorem aDp {Q:Value->Shared->Prop}(hh:A.handled=none)(ho:s.heap.get? a=some (spO w us ep mask pl mv))(P:Ptb mask pl us)(hz:us.length*5<mask*3)(hB:∀u∈us,∃vs:List Value,IsTup s.heap u.2 vs.toArray/\IntsAre vs u.1)
  (q:∀(l:Addr) (h':Heap) (tk:Nat) (us':Us) (c:Nat),s.heap.objs.size<=l->(∀b o,s.heap.get? b=some o->h'.get? b=some o)->h'.get? l=some (jw "list" (us'.map λu=>Value.ref u.2).toArray c)->us'.Perm us->(us'.map (·.1)).Pairwise (λa b=>lexL b a=false)->Q (.ref l) { s with heap:=h',toks:=tk }):wpAny (model prog w) A (call (.builtin "sorted") [.ref a]) Q E s:=by
 have few:=P.few
 refine ot AX AB AD (AE _) ?g1
 case g1=>
  unfold w9
  refine aa (m:=checkCount "sorted" 1 1 _) (ao (aa (aBq hh ho P hz λh1 tk u1 pm hk hs=>?g2)))
  case g2=>
   have l1:u1.length=us.length:=pm.length_eq
   refine aa (qe ?g3 (by rw[af,l1,jt];omega))
   case g3=>
    have e2:(h1.push (jw "list" (u1.map λu=>Value.ref u.2).toArray 0)).get? h1.objs.size=some (jw "list" (u1.map λu=>Value.ref u.2).toArray 0):=ay _ rfl
    have hv:TupsAt (h1.push (jw "list" (u1.map λu=>Value.ref u.2).toArray 0)) (u1.map λu=>Value.ref u.2) (u1.map (·.1)):=by
     refine⟨by rw[af,af],λi row hr=>?_⟩
     rw[bh] at hr
     obtain⟨u,hu,rfl⟩:=js.mp hr
     obtain⟨vs,⟨o,b1,b2,b3⟩,hi⟩:=hB u (pm.mem_iff.mp (au hu))
     exact⟨u.2,vs,by rw[bh,hu];rfl,⟨o,aj _ (hk _ _ b1),b2,b3⟩,hi⟩
    have hne:∀q∈u1.map (·.1),q≠[]:=λq hq=>by
     obtain⟨u,hu,rfl⟩:=bt.mp hq
     exact aHS _ (P.mem u (pm.mem_iff.mp hu))
    show wpAny _ _ _ _ _ { s with heap:=h1.push (jw "list" (u1.map λu=>Value.ref u.2).toArray 0),toks:=tk }
    refine aa (fq (dt za ⟨_,e2,rfl⟩ yh (tX (s:={ s with heap:=h1.push (jw "list" (u1.map λu=>Value.ref u.2).toArray 0),toks:=tk }) e2 hv hne (by rw[af,l1];omega) λp hp=>⟨_,rfl,ao ⟨_,rfl,?g4⟩⟩) (zb _)))
    case g4=>
     obtain⟨f1,f2⟩:=aAg hp
     have pl':p.toList.Perm (aq u1.length):=by
      have:=nz.mp hp.1
      rw[af] at this
      simpa using this
     have hb:∀i∈p.toList,i<u1.length:=λi hi=>da.mp (pl'.mem_iff.mp hi)
     have eR:(p.toList.map λi=>(u1.map (·.1)).getD i [])=(p.toList.map λi=>u1.getD i ([],0)).map (·.1):=uC _ hb
     have eV:(p.toList.map λi=>(u1.map λu=>Value.ref u.2).getD i Value.none)=(p.toList.map λi=>u1.getD i ([],0)).map λu=>Value.ref u.2:=uC _ hb
     rw[eR] at f2
     rw[eV]
     obtain⟨c,he⟩:=sortedHeap_at (vs:=u1.map λu=>Value.ref u.2) (out:=((p.toList.map λi=>u1.getD i ([],0)).map λu=>Value.ref u.2).toArray) e2
     have ex:(aq u1.length).map (λi=>u1.getD i ([],0))=u1:=by
      apply oz
      ·simp
      ·intro i h1 h2
       rw[jq,m3,ak,ah h2];rfl
     have py:(p.toList.map λi=>u1.getD i ([],0)).Perm u1:=by have:=pl'.map λi=>u1.getD i ([],0);rw[ex] at this;exact this
     refine q h1.objs.size _ tk _ c (ig hs) (λb o e=>?_) he (py.trans pm) f2
     have hb':b<h1.objs.size:=bj (hk b o e)
     rw[sortedHeap_old (c6 hb') (by rw[e8];exact fj hb')]
     exact aj _ (hk b o e)
end
section
variable {X:Cx}
def aJv (K:ae) (H:Hp) (us:Us):Prop:=∀u∈us,SqT K H u.2 (u.1.map V.int)
def aEV (w:World) (K:ae):List V->Hp->VK->Prop:=λvs H Q=>∃(a:Addr) (us:Us),vs=[.ref a]/\H a=some (.ext (aAI w a us))/\aJv K H us/\∀(us':Us) (l:Addr),H l=none->us'.Perm us->(us'.map (·.1)).Pairwise (λa b=>lexL b a=false)->Q (.ref l) (upd H l (.lst (us'.map λu=>V.ref u.2)))
theorem aHX {K:ae}{H:Hp}:∀{xs:List V}{R:List (List Int)},Rows K H xs R->∃vs:Us,xs=vs.map (λu=>V.ref u.2)/\vs.map (·.1)=R/\aJv K H vs
 |[],[],_=>⟨[],rfl,rfl,λu hu=>by cases hu⟩
 |[],r :: R,h=>by have:=h.1;cases this
 |x :: xs,[],h=>by have:=h.1;cases this
 |x :: xs,r :: R,h=>by
  obtain⟨b,e1,e2⟩:=h.2 0 r rfl
  obtain⟨vs,f1,f2,f3⟩:=aHX (K:=K) (H:=H) (xs:=xs) (R:=R) ⟨by have:=h.1;simpa using this,λi row hr=>h.2 (i+1) row hr⟩
  refine⟨(r,b) :: vs,by rw[c4,<- f1];congr 1;exact az e1,by rw[c4,f2],λu hu=>?_⟩
  rcases cm.mp hu with rfl | hu
  ·exact e2
  ·exact f3 u hu
theorem qY:∀{vs:Us}{its:List Value},Vals (vs.map λu=>V.ref u.2) its->its=vs.map λu=>Value.ref u.2
 |[],_, .nil=>rfl
 |_ :: _,_, .cons r t=>by
  obtain rfl:=r
  rw[qY t];rfl
theorem rZ:∀vs:Us,Vals (vs.map λu=>V.ref u.2) (vs.map λu=>Value.ref u.2)
 |[] => .nil
 |_ :: vs => .cons rfl (rZ vs)
theorem aBu (hc:X.calm=true):CallR X (.builtin "sorted") (aEV X.w X.K):=by
 intro pins s σ H xs us Q I r ⟨a,vs,e,ha,hrow,q⟩
 subst e
 obtain⟨u,rfl,ru⟩:=r.one
 obtain rfl:u=Value.ref a:=ru
 have hS:aAI X.w a vs s.heap:=(I.hok a _ ha).1
 obtain⟨ep,mk,pls,mv,o1,o2,o3⟩:=id hS
 have few:=o2.few
 refine aDp (I.ok.hd hc) o1 o2 o3 (λv hv=>?_) λl h' tk us' c hl hk he pm srt=>?_
 ·obtain⟨zs,rvs,pl,_⟩:=I.tuple (hrow v hv)
  exact⟨zs,pl,fL rvs⟩
 ·refine⟨.ref l,_,I.laid (a:=l) (t':=tk) (o := .lst (us'.map λu=>V.ref u.2)) hk hl ⟨?_,us'.map λu=>Value.ref u.2,c,rZ us',by simpa using he⟩,rfl,q us' l (I.hok.fresh hl) pm srt⟩
  rw[af,pm.length_eq,jt]
  omega
theorem aFQ {K:ae}{H:Hp}{us:Us}(h:aJv K H us):Rows K H (us.map λu=>V.ref u.2) (us.map (·.1)):=by
 refine⟨by rw[af,af],λi row hr=>?_⟩
 rw[bh] at hr
 obtain⟨u,hu,rfl⟩:=js.mp hr
 exact⟨u.2,by rw[bh,hu];rfl,h u (au hu)⟩
end
end L2
namespace L2
open PySem PySem.Spec PyProof.Rows
section
variable {X:Cx}
end
end L2
namespace L2
open PySem PySem.W PyProof.Rows
structure PBs (a₀:Array Keyed)(κ:wz)(st:va):Prop where
 perm:(arrOf st).Perm a₀
 kind:kindOf st=κ
 failed:vb st=none
theorem PBs.mem {a₀:Array Keyed}{κ:wz}{st:va}(h:PBs a₀ κ st){x:Keyed}(hx:x∈arrOf st):x∈a₀:=h.perm.mem_iff.mp hx
section
variable {prog:Program}{w:World}{A:Around}{E:Value->Shared->Prop}{s:Shared}{a₀:Array Keyed}{κ:wz}{st:va}
structure Kpt (a₀:Array Keyed)(κ:wz)(st st':va):Prop where
 b:PBs a₀ κ st'
 p:AY st'=AY st
theorem Kpt.trans {st1 st2:va}(h:Kpt a₀ κ st st1)(g:Kpt a₀ κ st1 st2):Kpt a₀ κ st st2:=⟨g.b,g.p.trans h.p⟩
end
section
variable {prog:Program}{w:World}{A:Around}{E:Value->Shared->Prop}{s:Shared}{a₀:Array Keyed}{κ:wz}{st:va}
end
section
variable {a b out:Array Keyed}{i j k:Nat}
end
structure SG (st st':va):Prop where
 k:kindOf st'=kindOf st
 a:arrOf st'=arrOf st
 p:AY st'=AY st
 f:vb st'=vb st
theorem SG.trans {s1 s2 s3:va}(h:SG s1 s2)(g:SG s2 s3):SG s1 s3:=⟨g.k.trans h.k,g.a.trans h.a,g.p.trans h.p,g.f.trans h.f⟩
section
variable {prog:Program}{w:World}{A:Around}{E:Value->Shared->Prop}{s:Shared}{a₀:Array Keyed}{κ:wz}{st:va}
end
section
variable {a b out:Array Keyed}{i j k:Nat}
end
section
variable {prog:Program}{w:World}{A:Around}{E:Value->Shared->Prop}{s:Shared}{a₀:Array Keyed}{κ:wz}{st:va}
end
section
variable {prog:Program}{w:World}{A:Around}{E:Value->Shared->Prop}{s:Shared}{a₀:Array Keyed}{κ:wz}{st:va}
end
section
variable {prog:Program}{w:World}{A:Around}{E:Value->Shared->Prop}{s:Shared}
end
section
variable {prog:Program}{w:World}{A:Around}{E:Value->Shared->Prop}{s:Shared}{d:Addr}{o:Obj}{es:Array DictEntry}{ep:Nat}
end
section
variable {X:Cx}
end
end L2
namespace L2
open PySem PySem.Spec PyProof.Rows
def aLI (c:Addr) (q:Str):HO := .ext λh=>∃o vs t,h.get? c=some o/\o.data = .fields vs/\vs[1]?=some (.str q t)
def TabS (H:Hp) (P:Addr) (pos:Pos) (q:Str):Prop:=H P=some (.tbl #[])\/∃c,H P=some (.tbl #[jb pos.line,jb pos.col, .ref c])/\H c=some (aLI c q)
theorem TabS.same {H H':Hp}{P:Addr}{pos:Pos}{q:Str}(h:TabS H P pos q)(s:Same H H'):TabS H' P pos q:=by
 rcases h with h | ⟨c,h1,h2⟩
 ·exact .inl (s _ _ h)
 ·exact .inr ⟨c,s _ _ h1,s _ _ h2⟩
section
variable {X:Cx}{pins:List (Addr×Obj)}{σ:St}{H:Hp}{s:Shared}{P cc:Addr}
end
section
variable {X:Cx}{pins:List (Addr×Obj)}{σ:St}{l f i0 S0:Addr}{us:List Value}{R:w6->Shared->Prop}{fobj:Obj}{H:Hp}
theorem FpOk.at {H':Hp}{b:Addr}(F:FpOk X pins H b)(h:H' b=none):FpOk X pins H' b:=⟨h,F.2⟩
end
section
variable {X:Cx}
end
section
variable {prog:Program}{w:World}{A:Around}{E:Value->Shared->Prop}{env:Env}
variable {nm q:Str}{C N:Addr}{bs bm bmB:List Value}{hdct:Bool}{sn:List Str}{sub:List Value}{ab:Bool}{col:Option Bool}{dd:Option Addr}{k0 k1 k2 k3 k5:Option Value}{B newId initId:String}
end
section
variable {X:Cx}{pins:List (Addr×Obj)}{σ:St}{H:Hp}{s:Shared}{a:Addr}{o:HO}{h':Heap}{t':Nat}
end
section
variable {X:Cx}{x:Str}{np pos:Pos}{C:Addr}{a:Expr}{es:List Expr}{ta:TA}{K:ae}
end
section
variable {prog:Program}{w:World}{A:Around}{E:Value->Shared->Prop}{h:Heap}{g:Array GenState}{d:Drawn}{t:Nat}{os:OsState}
variable {nm q:Str}{C N:Addr}{bs bm bmB:List Value}{hdct:Bool}{sn:List Str}{sub:List Value}{ab:Bool}{col:Option Bool}{dd:Option Addr}{k0 k1 k2 k3 k5:Option Value}{B newId initId:String}
end
end L2
namespace L2
open PySem PySem.Spec PySem.W PyProof.Rows
section
variable {prog:Program}{w:World}{A:Around}{E:Value->Shared->Prop}{s:Shared}
theorem PlainL.isList {h:Heap}{a:Addr}{its:Array Value}(x:PlainL h a its):h.IsList a its:=let⟨o,n,e,c,_,d⟩:=x;⟨o,e,c,n,by rw[d]⟩
theorem xC {l:Addr}{items:Array Value}{vs:Us}{Q:Value->Shared->Prop}(hu:A.units+20<cLine)(hh:A.handled=none)(hl:s.heap.IsList l items)(hi:items.toList=vs.map λu=>Value.ref u.2)(hB:∀u∈vs,iy (fm prog w) s.heap u.1 u.2)(h8:∀u∈vs,u.1∈K28)(h28:items.size<=28)
  (h:∀(h':Heap) (tk:Nat) (us:Us),aAI w s.heap.objs.size us h'->(∀u∈us,u∈vs)->(∀u∈vs,u.1∈us.map (·.1))->(∀b o,b<s.heap.objs.size->s.heap.get? b=some o->h'.get? b=some o)->Q (.ref s.heap.objs.size) { s with heap:=h',toks:=tk }) :
  wpAny (model prog w) A (call (.type "set") [.ref l]) Q E s:=by
 obtain⟨c,tl,hmro⟩:=ij.mro
 have hmade:=ij.made
 have hsub:=ij.sub
 refine wpAny_call (t8 ?_)
 show wpAny _ _ (callAny (.type "set") _) _ _ _
 refine ao ⟨u4 _ (by decide+kernel),gw F.entry_type_call ?_⟩
 rw[Around.under_plain (yd "set" [.ref l] []) rfl]
 have h1:=ij.notType
 have h2:=ij.canCreate
 have hct:=F.typeCall_set_1 (.ref l)
 repeat (any_goals (first | assumption | wp_step))
 refine jm (aEU (.ref l) (E:=E) (Q₁:=λobj s1=>obj = .ref s.heap.objs.size/\s1={ s with heap:=s.heap.push (smO w #[] 0 []) }) ⟨rfl,rfl⟩) λr s1 hr=>?_
 cases r with
 |error e=>exact hr
 |ok fl=>
  cases fl with
  |ret obj=>
   obtain⟨rfl,rfl⟩:=hr
   have hS:(s.heap.push (smO w #[] 0 [])).get? s.heap.objs.size=some (smO w #[] 0 []):=ay _ rfl
   have hT:Shared.TypeIs { s with heap:=s.heap.push (smO w #[] 0 []) } (.ref s.heap.objs.size) "set":=⟨_,hS,rfl⟩
   have hli:=ij.init.lookup
   have hbi:=ij.init.bind (.ref s.heap.objs.size)
   repeat (any_goals (first | assumption | wp_step))
   refine jm (yx (R:=wants (λr s2=>r = .none/\∃h' tk us,s2={ s with heap:=h',toks:=tk }/\aAI w s.heap.objs.size us h'/\(∀u∈us,u∈vs)/\(∀u∈vs,u.1∈us.map (·.1))/\∀b o,b<s.heap.objs.size->s.heap.get? b=some o->h'.get? b=some o) E) ij.init.plain F.entry_set_init (check_set_init_1 hT ?_)) λr2 s2 hr2=>?_
   ·obtain⟨ol,hol,hcl,nl,hdl⟩:=hl
    obtain⟨ocls,odict,odata,oslots⟩:=ol
    simp only at hcl hdl
    subst hcl;subst hdl
    have hol':(s.heap.push (smO w #[] 0 [])).get? l=some { cls := .type "list",dict:=odict,data := .seq items nl,slots:=oslots }:=aj _ hol
    have hsls:=F.sub_list_set
    have hslf:=F.sub_list_frozenset
    have hne:(Value.type "list" == Value.type "dict")=false:=by decide
    have hl1:(s.heap.push (smO w #[] 0 [])).IsList l items:=⟨_,hol',rfl,nl,rfl⟩
    have hlS:l<s.heap.objs.size:=bj hol
    unfold Builtin.«set.__init__» noKeywords tj
    generalize hPI:zv=PI
    wp_walk
    subst hPI
    refine qq hl1 ?_
    refine aa (qz ?_)
    have hh3:A.in1.in1.in1.handled=none:=by simp[hh]
    have hneI:l≠(s.heap.push (smO w #[] 0 [])).objs.size:=by
     rw[e8]
     exact c6 (fj hlS)
    have hlen:items.size=vs.length:=by rw[<- cg,hi,af]
    have hat:∀i,i<items.size->∃u∈vs,vs.getD i ([],0)=u/\vs[i]?=some u:=λi h=>by
     rw[hlen] at h
     exact⟨vs[i],f6 h,by rw[ak,ah h];rfl,ah h⟩
    have old:∀u∈vs,u.2<s.heap.objs.size:=λu hu'=>by
     obtain⟨o,_,_,ho,_⟩:=hB u hu'
     exact bj ho
    refine aGi (show A.units+1+1+1<cLine by omega) ((Walks.list hh3 _ l hneI items).toS) s.heap.objs.size ?_ (λi=>vs.getD i ([],0)) (λi v hlt hv=>?_) (λi hlt=>?_) (λi hlt=>?_) h28 (items.size - 0) 0 [] _ (by omega) (av _) ⟨⟨_,ay _ rfl,rfl,rfl⟩,hl1.push _⟩ ?_ (λm hm=>?_) (λu hu'=>by cases hu') (λm hm=>absurd hm (l9 m)) ?_
    ·rw[e8]
     simp only[cm,ip,or_false,not_or]
     exact⟨c6 (jo _),ja hlS⟩
    ·obtain⟨u,hu',e1,e2⟩:=hat i hlt
     try dsimp only
     rw[e1]
     have hv:items[i]?=some v:=hv
     rw[<- k8,hi,bh,e2] at hv
     exact(az hv).symm
    ·obtain⟨u,hu',e1,e2⟩:=hat i hlt
     try dsimp only
     rw[e1];exact h8 u hu'
    ·obtain⟨u,hu',e1,e2⟩:=hat i hlt
     try dsimp only
     rw[e1,e8]
     have:=old u hu'
     simp only[cm,ip,or_false,not_or]
     exact⟨c6 this,c6 (fj this)⟩
    ·obtain⟨ep,mk,pl,mv,a1,a2⟩:=aEn (w:=w) s.heap
     exact⟨ep,mk,pl,mv,aj _ a1,a2⟩
    ·obtain⟨u,hu',e1,e2⟩:=hat m hm
     try dsimp only
     rw[e1]
     exact tF (hB u hu') λo e=>aj _ (aj _ e)
    ·intro us' s' hm hS' hks1 hks2
     obtain⟨h',g',d',tk',os'⟩:=s'
     have eg:g'=s.gens:=hm.gens
     have ed:d'=s.drawn:=hm.drawn
     have eo:os'=s.os:=hm.os
     subst eg ed eo
     show wpAny _ _ _ _ _ _
     refine ao ?_
     show wpAny _ _ (ret Value.none) _ _ _
     refine ao ⟨rfl,h',tk',us',rfl,hS',λu hu'=>?_,λu hu'=>?_,λb o hb e=>hm.heap b o ?_ (aj _ (aj _ e))⟩
     ·obtain⟨m,h1,rfl⟩:=hks1 u hu'
      obtain⟨v,hv,e1,e2⟩:=hat m h1
      rw[e1];exact hv
     ·obtain⟨m,hm'⟩:=fh.mp hu'
      have h1:m<items.size:=by rw[hlen];exact(ai.mp hm').1
      have:=hks2 m h1
      try dsimp only at this
      rw[ak,hm'] at this
      exact this
     ·rw[e8]
      simp only[cm,ip,or_false,not_or]
      exact⟨c6 hb,c6 (fj hb)⟩
   ·cases r2 with
    |error e=>exact hr2
    |ok fl2=>
     cases fl2 with
     |ret r=>
      obtain⟨rfl,h',tk,us,rfl,hd⟩:=hr2
      repeat (any_goals (first | assumption | wp_step))
      exact h _ _ _ hd.1 hd.2.1 hd.2.2.1 hd.2.2.2
     |_=>exact hr2.elim
  |_=>exact hr.elim
end
section
variable {X:Cx}
def aFD (w:World) (K:ae):List V->Hp->VK->Prop:=λvs H Q=>∃(a:Addr) (xs:List V) (R:List (List Int)),vs=[.ref a]/\SqL K H a xs/\Rows K H xs R/\(∀r∈R,r∈K28)/\R.length<=28/\∀(p:Addr) (us:Us),H p=none->(us.map (·.1)).Nodup->(∀r,r∈us.map (·.1)↔r∈R)->aJv K H us->Q (.ref p) (upd H p (.ext (aAI w p us)))
theorem aBm (hc:X.calm=true)(hu:X.A.units+20<cLine):CallR X (.type "set") (aFD X.w X.K):=by
 intro pins s σ H xs us Q I r ⟨a,ys,R,e,ha,hR,h8,h28,q⟩
 subst e
 obtain⟨u,rfl,ru⟩:=r.one
 obtain rfl:u=Value.ref a:=ru
 obtain⟨vs,rfl,rfl,hrow⟩:=aHX hR
 obtain⟨its,rv,pl,hz⟩:=I.list ha
 have ei:=qY rv
 subst ei
 have key:∀v∈vs,iy (fm X.prog X.w) s.heap v.1 v.2:=λv hv=>by
  obtain⟨zs,rvs,⟨o,b1,b2,n,b3⟩,_⟩:=I.tuple (hrow v hv)
  exact⟨o,zs.toArray,n,b1,b2,b3,by simpa using aFf (fL rvs)⟩
 refine xC (items:=(vs.map λu:List Int×Addr=>Value.ref u.2).toArray) (vs:=vs) hu (I.ok.hd hc) pl.isList (by simp) key (λv hv=>h8 _ (ju hv)) (by rw[ar,af];rw[af] at h28;exact h28) λh' tk us' d1 d2 d3 d4=>?_
 obtain⟨ep,mk,pls,mv,o1,o2,o3⟩:=id d1
 refine⟨.ref s.heap.objs.size,_,I.laid (a:=s.heap.objs.size) (o := .ext (aAI X.w s.heap.objs.size us')) (λb u e=>d4 b u (bj e) e) (ba _) ⟨d1,⟨_,o1⟩,λh1 h2 ⟨ep,mk,pls,mv,z1,z2⟩ k=>⟨ep,mk,pls,mv,k _ z1,z2⟩⟩,rfl,q _ _ (I.hok.fresh (ba _)) o2.nd (λr=>⟨λh=>?_,λh=>?_⟩) λu hu=>hrow u (d2 u hu)⟩
 ·obtain⟨u,hu,rfl⟩:=bt.mp h
  exact ju (d2 u hu)
 ·obtain⟨u,hu,rfl⟩:=bt.mp h
  exact d3 u hu
def aGG (K:ae):List V->Hp->VK->Prop:=λvs H Q=>∃(a:Addr) (xs:List V) (R:List (List Int)),vs=[.ref a]/\SqL K H a xs/\Rows K H xs R/\(∀r∈R,r∈K28)/\R.length<=28 /\
 ∀(ys:List V) (R':List (List Int)),R'.Pairwise (λa b=>lexL b a=false)->R'.Nodup->(∀r,r∈R'↔r∈R)->∀H',Same H H'->Rows K H' ys R'->∀l,H' l=none->Q (.ref l) (upd H' l (.lst ys))
theorem aBX {K:ae}{x y:Str}{p p' pos pos':Pos}{e:Expr}{es:List Expr}{t:TA}{k:Nat}(hK:X.K=K)(hc:X.calm=true)(hr:Room k X.A)(hg:Gl X x)(hm:X.mg x=none)(hv:e9 x=some (.builtin "sorted"))(hg':Gl X y)(hm':X.mg y=none)(hv':e9 y=some (.type "set"))(ha:PA X (e :: es) t)
  (hn:x≠"__name__":=by decide) (hdb:(x == ("__debug__" : Str))=false:=by decide) (hn':y≠"__name__":=by decide) (hdb':(y == ("__debug__" : Str))=false:=by decide)
  (he:fi (e :: es) X.env=(false,eval e X.env) :: fi es X.env:=by rfl) (hpl:(vo pos' (fi es X.env)).any (·.1)=false:=by rfl):PE X (.Call (.Name x p) [.Call (.Name y p') (e :: es) [] pos'] [] pos) (tCB (aGG K) t):=by
 subst hK
 have hu:X.A.units+20<cLine:=by have:=aIa hr;omega
 have h1:PE X (.Call (.Name x p) [.Call (.Name y p') (e :: es) [] pos'] [] pos) (tCB (aEV X.w X.K) (aC (tCB (aFD X.w X.K) (tCl t)) aQ)):=aM (aBu hc) hg hm hv (cA (dS (aBm hc hu) hg' hm' hv' (aIY ha) hn' hdb' he hpl) aE) hn hdb
 intro pins s σ H Q I h
 refine h1 pins s σ H Q I ⟨_,h,λvs H1 ⟨a,xs,R,e1,e2,e3,e4,e4',e5⟩=>⟨a,xs,R,e1,e2,e3,e4,e4',λp us hp nd hm hrow=>?_⟩⟩
 have sp:=aI hp (.ext (aAI X.w p us))
 refine⟨p,us,rfl,aG,λu hu=>sp.tup (hrow u hu),λus' l hl pm srt=>?_⟩
 exact e5 _ _ srt ((pm.map _).nodup_iff.mpr nd) (λr=>by rw[(pm.map (·.1)).mem_iff];exact hm r) _ sp (aFQ λu hu=>sp.tup (hrow u (pm.mem_iff.mp hu))) l hl
end
end L2
namespace L2
open PySem PySem.W PyProof.Rows
open PySem.SeqAt
section
variable {prog:Program}{w:World}{A:Around}{E:Value->Shared->Prop}{s:Shared}
theorem qO {a:Addr}{vs:List Value}{n:Nat}{R:List (List Int)}{P:Fin->Shared->Prop}(ho:s.heap.get? a=some (jw "list" vs.toArray n))(hlen:vs.length=R.length){PP:Heap->Prop}(hP:PP s.heap)(kp:∀h h':Heap,PP h->(∀x us,IsTup h x us->IsTup h' x us)->PP h')(fst:∀h,PP h->∃fs,KatTups h vs fs/\fs.length=R.length/\∀v∈fs,∃x us,v = .ref x/\IsTup h x us)(ask:∀(s:Shared) (i j:Nat) (C:Bool->Shared->Prop),PP s.heap->i<R.length->j<R.length->C (rlt (nJ R) i j) s->kas_ask prog w A (zk false) vs i j C s)(h64:vs.length<64)
  (h:∀p,Put R p->P (.done (.ret .none)) { s with heap:=Aq s.heap a vs (je (p.toList.map λi=>vs.getD i Value.none)) }):wpAny (model prog w) A (Builtin.«list.sort» ⟨[.ref a],[]⟩) P E s:=by
 have ha:=bj ho
 have hz:vs.length<=bx:=by rw[jt];omega
 obtain⟨e1,ho1⟩:∃e1,(s.heap.update a (jz λ_=>#[])).get? a=some (jw "list" #[] e1):=⟨_,xt ho λ_=>#[]⟩
 rw[list_sort_plain]
 refine aa (xr ho rfl (aa (su ho rfl ?g1 (by rw[ar];exact hz) (av _))))
 case g1=>
 refine aa (zm ho1 rfl (aa (vf ?g2 (by show vs.length<=_;exact hz))))
 case g2=>
 refine aa (qe (fq ?g3) (av _))
 case g3=>
 obtain⟨h3,eh⟩:∃h3,h3=((s.heap.update a (jz λ_=>(#[]:Array Value))).push (jw "tuple" vs.toArray 0)).push (jw "list" #[] 0):=⟨_,rfl⟩
 show wpAny (model prog w) A _ P E { s with heap:=((s.heap.update a (jz λ_=>#[])).push (jw "tuple" vs.toArray 0)).push (jw "list" #[] 0) }
 rw[<- eh]
 have ho3:h3.get? a=some (jw "list" #[] e1):=by
  rw[eh]
  exact aj _ (aj _ ho1)
 have hv3:PP h3:=kp _ _ hP λx us ⟨o,b1,b2,b3⟩=>by
  have hx:x≠a:=λe=>by
   subst e
   rw[ho] at b1
   cases b1
   exact absurd (Value.type.inj (show Value.type "list" = Value.type "tuple" from b2)) (by decide)
  refine⟨o,?_,b2,b3⟩
  rw[eh]
  exact aj _ (aj _ (by rw[uc _ _ _ _ hx];exact b1))
 dsimp only
 have fin:∀(p:Array Nat) (st':va),Put R p->p.size=vs.length->arrOf st'=p.map (kas_item (vs.toArray.zip vs.toArray))->vb st'=none->wpAny (model prog w) A (do
   let touched:=(<- seqEpoch a) != e1
   wu (.ref a) λ_=>(arrOf st').map (·.2)
   if let some e:=vb st' then rule "list.sort.comparison-raised";throw e
   if touched then rule "list.sort.modified";raiseError "ValueError" "list modified during sort"
   ret .none) P E { s with heap:=h3 }:=λp st' hp hsz har hf=>by
  rw[kat_snds rfl har,hf]
  refine aa (zm ho3 rfl (aa (su ho3 rfl ?g4 (av _) ?g5)))
  case g5=>
   show(je _).size<=_
   rw[ar,af,cg];omega
  case g4=>
   simp only[bne_self_eq_false,dk,if_false]
   have:=h p hp
   unfold Aq at this
   rw[<- eh] at this
   exact ao this
 by_cases c:vs.toArray.size<2
 ·rw[if_pos c,if_pos c]
  refine aa (ao ?g6)
  case g6=>
  rw[StateT.run_pure]
  refine aa (ao ?g7)
  case g7=>
  have e2:(vs.toArray.zip vs.toArray).size=vs.length:=by simp
  refine fin (je (aq vs.length)) (SortSt.mk' general' (vs.toArray.zip vs.toArray) #[] 7 none) ⟨by rw[hlen],λi j hij hj=>?_⟩ (by simp) ?_ rfl
  ·have hl:R.length<2:=by rw[<- hlen];simpa using c
   rw[show i=j by omega]
   exact kP _
  ·have:=kas_range (vs.toArray.zip vs.toArray)
   rw[e2] at this
   exact this.symm
 ·rw[if_neg c,if_neg c]
  have h2:2<=vs.length:=by simpa using c
  obtain⟨fs,k1,k2,k3⟩:=fst _ hv3
  refine aa (kat_kind (s:={ s with heap:=h3 }) (T := .type "tuple") k1 (by have:=hlen;omega) (λv hv'=>?g8) (by decide) ?g9)
  case g8=>
   obtain⟨x,us,rfl,o,b1,b2,_⟩:=k3 v hv'
   exact kitAt_ty _ _ ⟨o,b1,b2⟩
  case g9=>
  obtain⟨q1,q2,q3⟩:=aAK (r:=nJ R) (n:=vs.length) (by omega)
  refine aa (jl (kat_run (ks:=vs) (vs:=vs) (s:={ s with heap:=h3 }) (κ:=zk false) (Q:=λst' s'=>s'={ s with heap:=h3 }/\arrOf st'=(bF (nJ R) (k7 vs.length)).map (kas_item (vs.toArray.zip vs.toArray))/\vb st'=none) (G:=λp' s'=>p'=bF (nJ R) (k7 vs.length)/\s'={ s with heap:=h3 }) rfl h2 h64 (λp' st' s' a1 a2 a3 a4=>⟨a4.2,by rw[<- a4.1];exact a2,a3⟩)
   (aDs (N:=vs.length) (r:=nJ R) (λi j C hi hj hC=>ask { s with heap:=h3 } i j C hv3 (by rw[<- hlen];exact hi) (by rw[<- hlen];exact hj) hC) _ (aAE (by omega)) ⟨rfl,rfl⟩)) ?_ λ_ _ e=>e)
  rintro⟨⟨⟩,st'⟩ s' ⟨rfl,har,hf⟩
  refine fin _ st' ⟨by rw[<- hlen];exact q1,λi j hij hj=>?_⟩ q2 har hf
  have hle:=q3 i j hij (by rw[hlen];exact hj)
  have bd:∀k,k<vs.length->(bF (nJ R) (k7 vs.length)).getD k 0<R.length:=λk hk=>by
   rw[cq,b8 (by omega)]
   have:=q1.mem_iff.mp (vy (show k<(bF (nJ R) (k7 vs.length)).size by omega))
   rw[<- hlen]
   simpa using this
  have hlt:=lK (R:=R) (bd j (by rw[hlen];exact hj)) (bd i (by rw[hlen];omega))
  cases z:lexL (R.getD ((bF (nJ R) (k7 vs.length)).getD j 0) []) (R.getD ((bF (nJ R) (k7 vs.length)).getD i 0) []) with
  |false=>rfl
  |true=>
   have:=hlt.mpr z
   unfold Kr at hle
   omega
theorem zP {l:Addr}{ob:Obj}{n:Nat}{T:String}{us:List Value}{R:List (List Int)}{Q:Value->Shared->Prop}(e0:s.heap.get? l=some ob)(ec:ob.cls = .type T)(eT:T="list"\/T="tuple")(ed:ob.data = .seq us.toArray n)(hlen:us.length=R.length){PP:Heap->Prop}(hP:PP s.heap)(kp:∀h h':Heap,PP h->(∀x us,IsTup h x us->IsTup h' x us)->PP h')(fst:∀h,PP h->∃fs,KatTups h us fs/\fs.length=R.length/\∀v∈fs,∃x us,v = .ref x/\IsTup h x us)(ask:∀(s:Shared) (i j:Nat) (C:Bool->Shared->Prop),PP s.heap->i<R.length->j<R.length->C (rlt (nJ R) i j) s->kas_ask prog w A.in1.in1 (zk false) us i j C s)(h64:us.length<64)
  (q:∀p,Put R p->Q (.ref (s.heap.objs.size+1)) { s with heap:=sortedAll s.heap us (je (p.toList.map λi=>us.getD i Value.none)) }):wpAny (model prog w) A (call (.builtin "sorted") [.ref l]) Q E s:=by
 refine ot AX AB AD (AE _) ?g1
 case g1=>
 unfold w9
 refine aa (m:=checkCount "sorted" 1 1 _) (ao (aa (aBe e0 ec eT ed (aa (qe ?g2)) (c9 (ig h64) (by decide)))))
 case g2=>
 obtain⟨h1,eh1⟩:∃h1,h1=(s.heap.push (jw "list" #[] 0)).update s.heap.objs.size (jz (· ++ us.toArray)):=⟨_,rfl⟩
 have z1:h1.objs.size=s.heap.objs.size+1:=by rw[eh1,Heap.size_update,size_push']
 have old:∀x o,s.heap.get? x=some o->(h1.push (jw "list" us.toArray 0)).get? x=some o:=λx o e=>by
  have hx:=bj e
  refine aj _ ?_
  rw[eh1,uc _ _ _ _ (c6 hx)]
  exact aj _ e
 have e2:(h1.push (jw "list" us.toArray 0)).get? (s.heap.objs.size+1)=some (jw "list" us.toArray 0):=by rw[<- z1];exact ay _ rfl
 have hv2:PP (h1.push (jw "list" us.toArray 0)):=kp _ _ hP λx vs ⟨o,b1,b2,b3⟩=>⟨o,old x o b1,b2,b3⟩
 show wpAny _ _ _ _ _ { s with heap:=((s.heap.push (jw "list" #[] 0)).update s.heap.objs.size (jz (· ++ us.toArray))).push (jw "list" us.toArray 0) }
 rw[<- eh1,z1]
 refine aa (fq (dt za ⟨_,e2,rfl⟩ yh (qO (s:={ s with heap:=h1.push (jw "list" us.toArray 0) }) e2 hlen hv2 kp fst ask h64 λp hp=>⟨_,rfl,ao ⟨_,rfl,?g3⟩⟩) (zb _)))
 case g3=>
  have:=q p hp
  unfold sortedAll at this
  rw[<- eh1] at this
  exact this
def PtAt (h:Heap) (vs:List Value) (R:List (List Int)):Prop:=vs.length=R.length/\∀(i:Nat) (row:List Int),R[i]?=some row->∃(x q f:Addr) (us ws:List Value) (r:List Int),vs[i]?=some (.ref x)/\IsTup h x [Value.ref q, .ref f].toArray/\IsTup h q us.toArray/\IntsAre us row/\IsTup h f ws.toArray/\IntsAre ws r
theorem PtAt.keep {h h':Heap}{vs:List Value}{R:List (List Int)}(hv:PtAt h vs R)(k:∀x us,IsTup h x us->IsTup h' x us):PtAt h' vs R:=
 ⟨hv.1,λi row hr=>by obtain⟨x,q,f,us,ws,r,e1,e2,e3,e4,e5,e6⟩:=hv.2 i row hr;exact⟨x,q,f,us,ws,r,e1,k _ _ e2,k _ _ e3,e4,k _ _ e5,e6⟩⟩
theorem wE {h:Heap}:∀{vs:List Value}{R:List (List Int)},PtAt h vs R->∃fs,KatTups h vs fs/\fs.length=R.length/\∀v∈fs,∃x us,v = .ref x/\IsTup h x us
 |[],[],_=>⟨[],trivial,rfl,λ_ z=>by cases z⟩
 |[],_ :: _,hv=>by cases hv.1
 |_ :: _,[],hv=>by cases hv.1
 |v :: vs,q :: R,hv=>by
  obtain⟨x,q',f,us,ws,r,e1,⟨o,a1,a2,n,a3⟩,e3,_⟩:=hv.2 0 q rfl
  obtain⟨fs,k,l,f'⟩:=wE (vs:=vs) (R:=R) ⟨by simpa using hv.1,λi row hr=>hv.2 (i+1) row hr⟩
  obtain rfl:v = .ref x:=by simpa using e1
  exact⟨.ref q' :: fs,⟨⟨x,o,_,n,rfl,a1,a2,a3,rfl⟩,k⟩,by simp[l],λv hv'=>by
   rcases cm.mp hv' with e | hv'
   ·exact⟨q',_,e,e3⟩
   ·exact f' v hv'⟩
theorem aIu (hu:A.units+10<cLine){vs:List Value}{R:List (List Int)}(nd:R.Nodup)(hv:PtAt s.heap vs R){i j:Nat}{C:Bool->Shared->Prop}(hi:i<R.length)(hj:j<R.length)(h:C (rlt (nJ R) i j) s):kas_ask prog w A (zk false) vs i j C s:=by
 have at':∀k,k<R.length->∃(x q f:Addr) (us ws:List Value) (r:List Int),vs.getD k Value.none = .ref x/\IsTup s.heap x [Value.ref q, .ref f].toArray/\IsTup s.heap q us.toArray/\IntsAre us (R.getD k [])/\IsTup s.heap f ws.toArray/\IntsAre ws r:=λk hk=>by
  obtain⟨x,q,f,us,ws,r,e1,e2,e3,e4,e5,e6⟩:=hv.2 k R[k] (ah hk)
  refine⟨x,q,f,us,ws,r,by rw[ak,e1];rfl,e2,e3,?_,e5,e6⟩
  rw[ak,ah hk]
  exact e4
 have e:rlt (nJ R) i j=lexL (R.getD i []) (R.getD j []):=by
  unfold rlt
  by_cases c:lexL (R.getD i []) (R.getD j [])=true
  ·rw[c];exact decide_eq_true ((lK hi hj).mpr c)
  ·rw[dq _ |>.mp c];exact decide_eq_false λz=>c ((lK hi hj).mp z)
 rw[e] at h
 show wpAny (model prog w) A (keyLt' (zk false) (vs.getD i Value.none) (vs.getD j Value.none)) C (λ_ _=>False) s
 by_cases hij:i=j
 ·subst hij
  obtain⟨x,q,f,us,ws,r,e1,⟨ox,a1,_,n1,d1⟩,o1,w1,o2,w2⟩:=at' i hi
  rw[e1]
  refine kat_lt a1 d1 a1 d1 ?_
  refine kat_cons (yR (by omega) o1 o1 w1 w1 prog w _ _ ?_)
  rw[show eqL ((R.getD i []).map Dt.int) ((R.getD i []).map Dt.int)=true from fG _]
  refine kat_yes (kat_cons (yR (by omega) o2 o2 w2 w2 prog w _ _ ?_))
  rw[show eqL (r.map Dt.int) (r.map Dt.int)=true from fG _]
  rw[kP] at h
  exact kat_yes (kat_nil h)
 ·obtain⟨x,q,f,us,ws,r,e1,⟨ox,a1,_,n1,d1⟩,o1,w1,_,_⟩:=at' i hi
  obtain⟨x',q',f',us',ws',r',e2,⟨oy,a2,_,n2,d2⟩,o2,w2,_,_⟩:=at' j hj
  rw[e1,e2]
  refine kat_lt a1 d1 a2 d2 ?_
  refine kat_cons (yR (by omega) o1 o2 w1 w2 prog w _ _ ?_)
  have ne:eqL ((R.getD i []).map Dt.int) ((R.getD j []).map Dt.int)=false:=by
   rw[<- dq]
   intro z
   have z:=nX z
   rw[ak,ak,ah hi,ah hj] at z
   exact hij ((ou nd).mp z)
  rw[ne]
  exact kat_no (kat_one _ _ (aHb (by omega) o1 o2 w1 w2 h))
end
section
variable {X:Cx}
def Pt (K:ae) (H:Hp) (b:Addr) (e:List Int×Int×Int):Prop:=∃(q f:Addr),SqT K H b [.ref q, .ref f]/\SqT K H q (e.1.map V.int)/\SqT K H f [.int e.2.1, .int e.2.2]
def iM (K:ae) (H:Hp) (xs:List V) (W:List (List Int×Int×Int)):Prop:=xs.length=W.length/\∀(i:Nat) (e:List Int×Int×Int),W[i]?=some e->∃b,xs[i]?=some (.ref b)/\Pt K H b e
def xX (K:ae):List V->Hp->VK->Prop:=λvs H Q=>∃(a:Addr) (xs:List V) (W:List (List Int×Int×Int)),vs=[.ref a]/\Sq K H a xs/\iM K H xs W/\(W.map (·.1)).Nodup/\W.length<64 /\
 ∀(ys:List V) (W':List (List Int×Int×Int)),W'.Perm W->(W'.map (·.1)).Pairwise (λa b=>lexL b a=false)->ys.Perm xs->iM K H ys W'->∀l,H l=none->Q (.ref l) (upd H l (.lst ys))
theorem yQ {X:Cx}{k:Nat}(hr:Room k X.A):CallR X (.builtin "sorted") (xX X.K):=by
 intro pins s σ H vs us Q I r ⟨a,xs,W,e,hq,hR,nd,h64,q⟩
 subst e
 obtain⟨u,rfl,ru⟩:=aAX r
 obtain rfl:u=Value.ref a:=ru
 have go:∀(its:List Value) (ob:Obj) (n:Nat) (T:String),Vals xs its->s.heap.get? a=some ob->ob.cls = .type T->(T="list"\/T="tuple")->ob.data = .seq its.toArray n->wpAny (model X.prog X.w) X.A (call (.builtin "sorted") [.ref a]) (EP X pins σ Q) X.xe s:=by
  intro its ob n T rv e0 ec eT ed
  have hl:=rv.length
  have hv:PtAt s.heap its (W.map (·.1)):=⟨by rw[<- hl,af];exact hR.1,λi row hr=>by
   rw[bh] at hr
   cases ew:W[i]? with
   |none=>rw[ew] at hr;cases hr
   |some e=>
   rw[ew] at hr
   obtain rfl:e.1=row:=az hr
   obtain⟨b,e1,q,f,e2,e3,e4⟩:=hR.2 i e ew
   obtain⟨u,eu,rU⟩:=rv.get e1
   obtain rfl:u=Value.ref b:=rU
   obtain⟨vs,rvs,pl,_⟩:=I.tuple e2
   obtain⟨ws,rws,pq,_⟩:=I.tuple e3
   obtain⟨zs,rzs,pz,_⟩:=I.tuple e4
   cases rvs with
   |cons r1 rvs=>
    cases rvs with
    |cons r2 rvs=>
     cases rvs
     obtain rfl:=(show _=Value.ref q from r1)
     obtain rfl:=(show _=Value.ref f from r2)
     exact⟨b,q,f,ws,zs,[e.2.1,e.2.2],eu,pl,pq,fL rws,pz,fL (by simpa using rzs)⟩⟩
  refine zP e0 ec eT ed hv.1 hv (λh h' hv k=>hv.keep k) (λh hv=>wE hv) (λs i j C hv hi hj hC=>aIu (by have:=hr.un;show X.A.units+1+1+10<cLine;omega) nd hv hi hj hC) (by rw[<- hl,hR.1];exact h64) λp hp=>?_
  obtain⟨f1,f2⟩:=aAg hp
  have pl:p.toList.Perm (aq W.length):=by simpa using nz.mp hp.1
  have hb:∀i∈p.toList,i<W.length:=λi hi=>da.mp (pl.mem_iff.mp hi)
  obtain⟨c,he⟩:=sortedAll_at s.heap its (je (p.toList.map λi=>its.getD i Value.none))
  have ex:(aq W.length).map (λi=>xs.getD i V.non)=xs:=by
   apply oz
   ·simp[hR.1]
   ·intro i h1 h2
    rw[jq,m3,ak,ah h2];rfl
  have py:(p.toList.map λi=>xs.getD i V.non).Perm xs:=by have:=pl.map λi=>xs.getD i V.non;rw[ex] at this;exact this
  have exW:(aq W.length).map (λi=>W.getD i ([],0,0))=W:=by
   apply oz
   ·simp
   ·intro i h1 h2
    rw[jq,m3,ak,ah h2];rfl
  have pW:(p.toList.map λi=>W.getD i ([],0,0)).Perm W:=by have:=pl.map λi=>W.getD i ([],0,0);rw[exW] at this;exact this
  have eW:(p.toList.map λi=>W.getD i ([],0,0)).map (·.1)=p.toList.map λi=>(W.map (·.1)).getD i []:=by
   rw[dr]
   refine ug λi hi=>?_
   show(W.getD i ([],0,0)).1=_
   rw[ak,ak,bh]
   cases W[i]? <;> rfl
  refine⟨.ref (s.heap.objs.size+1),_,I.laid (t':=s.toks) (o := .lst (p.toList.map λi=>xs.getD i V.non)) (λb ob q=>sortedAll_old q) (wk _) ?_,rfl,q _ (p.toList.map λi=>W.getD i ([],0,0)) pW (by rw[eW];exact f2) py ?_ _ (I.hok.fresh (wk _))⟩
  ·refine⟨?_,p.toList.map λi=>its.getD i Value.none,c,?_,by simpa using he⟩
   ·rw[af,pl.length_eq,e7]
    exact c9 (ig h64) (by decide)
   ·have all:∀l:List Nat,(∀i∈l,i<W.length)->Vals (l.map λi=>xs.getD i V.non) (l.map λi=>its.getD i Value.none):=by
     intro l
     induction l with
     |nil=>intro _;exact .nil
     |cons i l ih=>
      intro h
      have hi:i<xs.length:=by rw[hR.1];exact h i (bp ..)
      obtain⟨u,eu,rU⟩:=rv.get (ah hi)
      refine .cons ?_ (ih λj hj=>h j (bf _ hj))
      show RelV (xs.getD i V.non) (its.getD i Value.none)
      rw[ak,ak,eu,ah hi]
      exact rU
    exact all _ hb
  ·refine⟨by rw[af,af],λi row hr=>?_⟩
   rw[bh] at hr
   cases ep:p.toList[i]? with
   |none=>rw[ep] at hr;cases hr
   |some k=>
    rw[ep] at hr
    obtain rfl:W.getD k ([],0,0)=row:=az hr
    have hk:=hb k (au ep)
    obtain⟨b,e1,e2⟩:=hR.2 k W[k] (ah hk)
    refine⟨b,?_,?_⟩
    ·rw[bh,ep]
     show some (xs.getD k V.non)=_
     rw[ak,e1];rfl
    ·rw[ak,ah hk];exact e2
 rcases hq with hq | hq
 ·obtain⟨its,rv,pl,hz⟩:=I.list hq
  obtain⟨o,ho,hc,n,hd⟩:=pl.isList
  exact go its o n "list" rv ho hc (.inl rfl) hd
 ·obtain⟨its,rv,pl,hz⟩:=I.tuple hq
  obtain⟨o,ho,hc,n,hd⟩:=pl
  exact go its o n "tuple" rv ho hc (.inr rfl) hd
theorem wG {K:ae}{k:Nat}(hK:X.K=K)(hr:Room k X.A):CallR X (.builtin "sorted") (xX K):=by subst hK;exact yQ hr
end
end L2
namespace L2
open PySem PySem.Spec PySem.W PyProof.Rows
open PySem.SeqAt
section
variable {prog:Program}{w:World}{A:Around}{E:Value->Shared->Prop}{s:Shared}{a:Addr}{es:Array (Int×Value)}{ep:Nat}{pl:List Nat}
end
section
variable {prog:Program}{w:World}{A:Around}{E:Value->Shared->Prop}{s:Shared}
end
section
variable {prog:Program}{w:World}{A:Around}{R:w6->Shared->Prop}{I:Addr}{fp wr:List Addr}{G:Array GenState->Array GenState->Prop}{n:Nat}{P:Nat->Value->Prop}{St:Nat->Shared->Prop}
end
section
variable {prog:Program}{w:World}{A:Around}{E:Value->Shared->Prop}{s:Shared}
end
section
variable {X:Cx}
theorem aGA {K:ae}{k:Nat}(hK:X.K=K)(hr:Room k X.A):OpR X (gj .Lt) (aKE K):=by subst hK;exact aHy (by have:=hr.un;omega)
end
end L2
namespace K36
open PySem L2
def top (i:Nat):Stmt:=PySem.Challenge.pw_homeround_k36_shares_told.main.body.getD i (.Pass ⟨0,0,0,0⟩)
section
variable {P:Program}{w:World}{K:ae}{mg:Str->Option Value}{base:Heap}
variable (B:aLo mg){p0:Sp}(d0:Def P w K mg base "is_whole" 1 ["thing"] p0){p1:Sp}(d1:Def P w K mg base "common_measure" 1 ["one","other"] p1){p2:Sp}(d2:Def P w K mg base "are_wholes" 2 ["thing"] p2){p3:Sp}(d3:Def P w K mg base "lowest" 2 ["top","bottom"] p3){p4:Sp}(d4:Def P w K mg base "common_bottom" 2 ["some"] p4){p5:Sp}(d5:Def P w K mg base "tops_over" 1 ["some","bottom"] p5){t0:Tok}(g0:mg "LEAST_PLACES" = some (.int 3 t0)){t1:Tok}(g1:mg "MOST_PLACES" = some (.int 6 t1)){c0:Addr}(e0:mg "NotEven" = some (.ref c0)){c1:Addr}(e1:mg "TooFew" = some (.ref c1)){c2:Addr}(e2:mg "TooMany" = some (.ref c2))(x0:j9 K c0 aFd "ValueError.__new__" = true)(x1:j9 K c1 aFd "ValueError.__new__" = true)(x2:j9 K c2 aFd "ValueError.__new__" = true){p6:Sp}(d6:Def P w K mg base "is_even" 1 ["table"] p6){p7:Sp}(d7:Def P w K mg base "all_pairs" 1 ["many"] p7){p8:Sp}(d8:Def P w K mg base "climb" 3 ["rows","held"] p8){p9:Sp}(d9:Def P w K mg base "first_rows" 2 ["table","pairs","steps"] p9){p10:Sp}(d10:Def P w K mg base "price_steps" 2 ["many"] p10){p11:Sp}(d11:Def P w K mg base "told_cuts" 3 ["steps","rows","held","bottom"] p11){p12:Sp}(y0:DefX P w K mg base "refuse_unfit" 2 ["table"] p12){p13:Sp}(d12:Def P w K mg base "all_sets" 1 ["many"] p13){p14:Sp}(d13:Def P w K mg base "does_part" 1 ["some","i","j"] p14){p15:Sp}(d14:Def P w K mg base "rising_column" 1 ["rows"] p15){p16:Sp}(d15:Def P w K mg base "tightest_row" 2 ["rows","held","column"] p16){p17:Sp}(d16:Def P w K mg base "turn" 1 ["rows","at","column","bottom"] p17){p18:Sp}(d17:Def P w K mg base "is_tighter" 1 ["rows","held","column","at","other"] p18){c3:Addr}(e3:mg "TWO" = some (.ref c3))(GA:mg "any" = none){p19:Sp}(d18:Def P w K mg base "do_rise" 1 ["some"] p19){p20:Sp}(d19:Def P w K mg base "is_less" 1 ["one","other"] p20){p21:Sp}(d20:Def P w K mg base "is_share" 4 ["many","thing"] p21){p22:Sp}(d21:Def P w K mg base "over_cut" 4 ["some","cut"] p22){p23:Sp}(d22:Def P w K mg base "times" 3 ["one","other"] p23){p24:Sp}(d23:Def P w K mg base "total" 3 ["some"] p24){p25:Sp}(d24:Def P w K mg base "is_fraction" 3 ["thing"] p25){p26:Sp}(d25:Def P w K mg base "between" 4 ["some","i","j"] p26){p27:Sp}(d26:Def P w K mg base "is_cut" 4 ["many","thing"] p27){p28:Sp}(d27:Def P w K mg base "_law_cmixed" 1 ["cell","at"] p28){p29:Sp}(d28:Def P w K mg base "_law_cdraw" 2 ["feed","many"] p29){p30:Sp}(d29:Def P w K mg base "_law_cpairs" 1 ["many"] p30){p31:Sp}(d30:Def P w K mg base "_law_cshort" 1 ["rows"] p31){p32:Sp}(d31:Def P w K mg base "_law_clow" 1 ["top","bottom"] p32){p33:Sp}(d32:Def P w K mg base "_law_cwhole" 1 ["thing"] p33){p34:Sp}(d33:Def P w K mg base "_law_cis_fraction" 2 ["thing"] p34){p35:Sp}(d34:Def P w K mg base "_law_cis_tie" 2 ["many","thing"] p35){p36:Sp}(d35:Def P w K mg base "_law_cover_sum" 3 ["some","side"] p36){p37:Sp}(d36:Def P w K mg base "_law_cplus" 2 ["some"] p37){p38:Sp}(d37:Def P w K mg base "_law_csets" 1 ["many"] p38){p39:Sp}(d38:Def P w K mg base "_law_cis_side" 2 ["many","some"] p39){p40:Sp}(d39:Def P w K mg base "_law_cover" 1 ["some","i","j"] p40){p41:Sp}(d40:Def P w K mg base "_law_care_cuts" 3 ["table","some","worth"] p41){p42:Sp}(d41:Def P w K mg base "_law_care_shares" 4 ["table","some","worth"] p42){p43:Sp}(d42:Def P w K mg base "_law_ceven" 3 ["feed","least","most"] p43){p44:Sp}(d43:Def P w K mg base "_law_copen" 1 ["script"] p44){p45:Sp}(y1:DefX P w K mg base "are_cuts" 5 ["table","some","worth"] p45){p46:Sp}(y2:DefX P w K mg base "are_shares" 5 ["table","some","worth"] p46){p47:Sp}(y3:DefX P w K mg base "shares" 4 ["table"] p47)
def qV (K:ae) : TS:=(aP (cS (sS (tCB (vF K) (aC (aD 0) (aC (tC (.ty "int")) aQ))) (aGz (tCB (vF K) (aC (aD 0) (aC (tC (.ty "bool")) aQ)))))) aK)
def yL : OkN P w K mg base "is_whole" (top 6) 1 ["thing"] ["thing"] (qV K):=okN λ_ _ _ _ _ _ _ nd hr=>(aA (aS (mI (aM (cO (K:=K) rfl) rfl B.isi fM (aB (pv 0) (aB (eC (v := .ty "int") rfl B.int aFw rfl) aE))) (kK (aEX (aM (cO (K:=K) rfl) rfl B.isi fM (aB (pv 0) (aB (eC (v := .ty "bool") rfl B.bool aBK rfl) aE))))))) aF)
def mO (K:ae) (p0:Sp):TS:=(aP (cS (sS (tCB (vF K) (aC (aD 0) (aC (tC (.ty "tuple")) aQ))) (tCB (aFY K) (aC (cV [none] (fU K (aD 0)) (aJ 0) [] λacc=>(cP (aY p0 [] E0 (aC (aD 0) aQ)) acc)) aQ)))) aK)
def sZ : OkN P w K mg base "are_wholes" (top 7) 2 ["thing"] ["thing"] (mO K p0):=okN λ_ _ _ _ _ _ _ nd hr=>(aA (aS (mI (aM (cO (K:=K) rfl) rfl B.isi fM (aB (pv 0) (aB (eC (v := .ty "tuple") rfl B.tuple dL rfl) aE))) (kK (aM (gI (K:=K) rfl rfl) rfl B.all rV (cK (bW (N':=["part"]) (ix:=[none]) rfl rfl rfl (bE (K:=K) rfl (pv 0)) (λ_ _ _=>(aL (i:=0) (show(["part"]:List Str).Nodup from by decide+kernel) rfl (Or.inl rfl))) (λ_ _ _ => .nil) (λ_ _ _ _=>(bG rfl (aR (d0.mono (by decide)) hr rfl (aB (pv 0) aE)) rfl))) aE))))) aF)
def aAL (K:ae) (p1:Sp):TS:=(aP (bO (aY p1 [] E0 (aC (aD 0) (aC (aD 1) aQ))) (aJ 2)) (aP (dP (bH (tOp yLt (aD 1) (tC (.int 0)))) (aP (bO (tUn xU (aD 2)) (aJ 2)) aK) aK) (aP (cS (lS (aC (tOp pE (aD 0) (aD 2)) (aC (tOp pE (aD 1) (aD 2)) aQ)))) aK)))
def aDr : OkN P w K mg base "lowest" (top 9) 2 ["top","bottom","measure"] ["top","bottom"] (aAL K p1):=okN λ_ _ _ _ _ _ _ nd hr=>(aA (bA (i:=2) nd rfl (.inl rfl) (aR (d1.mono (by decide)) hr rfl (aB (pv 0) (aB (pv 1) aE)))) (aA (cJ (aX fK (pv 1) aH (aW _)) (aA (bA (i:=2) nd rfl (.inl rfl) (jN fO (pv 2))) aF) aF) (aA (aS (dF (cE (bD fV (pv 0) (pv 2)) (cE (bD fV (pv 1) (pv 2)) aE)))) aF)))
def hW (K:ae) : TS:=(aP (bO (tCB aAr (aC (aD 0) aQ)) (aJ 0)) (aP (bO (tCB aAr (aC (aD 1) aQ)) (aJ 1)) (aP (aAQ (bH (tOp yGt (aD 1) (tC (.int 0)))) (aP (bO (tOp zF (aD 0) (aD 1)) (aJ 2)) (aP (bO (aD 1) (aJ 0)) (aP (bO (aD 2) (aJ 1)) aK)))) (aP (cS (aD 0)) aK))))
def lN : OkN P w K mg base "common_measure" (top 10) 1 ["one","other","left"] ["one","other"] (hW K):=okN λ_ _ _ _ _ _ _ nd hr=>(aA (bA (i:=0) nd rfl (.inl rfl) (aM iK rfl B.abs wX (aB (pv 0) aE))) (aA (bA (i:=1) nd rfl (.inl rfl) (aM iK rfl B.abs wX (aB (pv 1) aE))) (aA (tZ dh (aX oT (pv 1) aH (aW _)) (aA (bA (i:=2) nd rfl (.inl rfl) (bD jC (pv 0) (pv 1))) (aA (bA (i:=0) nd rfl (.inl rfl) (pv 1)) (aA (bA (i:=1) nd rfl (.inl rfl) (pv 2)) aF)))) (aA (aS (pv 0)) aF))))
def kR (K:ae) (p2:Sp) (p1:Sp):TS:=(aP (dP (tOr (iP (tB (aY p2 [] E0 (aC (aD 0) aQ)))) (bH (tOp (vA K) (tCB (iA K) (aC (aD 0) aQ)) (tC (.int 2))))) (aP (cS (tC (.bl false))) aK) aK) (aP (bO (aD 0) (jI K 2 (bN (aJ 1) (bN (aJ 2) jU)))) (aP (cS (sS (tOp yGe (aD 2) (tC (.int 1))) (tOp (gE K) (aY p1 [] E0 (aC (aD 1) (aC (aD 2) aQ))) (tC (.int 1))))) aK)))
def qH : OkN P w K mg base "is_fraction" (top 11) 3 ["thing","top","bottom"] ["thing"] (kR K p2 p1):=okN λ_ _ _ _ _ _ _ nd hr=>(aA (cJ (PW.pt (eY (cF (bS (aR (d2.mono (by decide)) hr rfl (aB (pv 0) aE)))) (dH (aX (fE (K:=K) rfl hr) (aM (aV (K:=K) rfl) rfl B.len cD (aB (pv 0) aE)) aH (aW _))))) (aA (aS dE) aF) aF) (aA (fB (pv 0) (bY (K:=K) rfl rfl (aO (aL (i:=1) nd rfl (Or.inl rfl)) (aO (aL (i:=2) nd rfl (Or.inl rfl)) bU)))) (aA (aS (mI (cG aHN (pv 2) aH (aW _)) (kK (cG (dR (K:=K) rfl hr) (aR (d1.mono (by decide)) hr rfl (aB (pv 1) (aB (pv 2) aE))) aH (aW _))))) aF)))
def aCe (K:ae) (p3:Sp):TS:=(aP (cS (aY p3 [] E0 (aC (tOp dQ (tOp (aZ K) (aD 0) (tC (.int 0))) (tOp (aZ K) (aD 1) (tC (.int 0)))) (aC (tOp dQ (tOp (aZ K) (aD 0) (tC (.int 1))) (tOp (aZ K) (aD 1) (tC (.int 1)))) aQ)))) aK)
def aDV : OkN P w K mg base "times" (top 12) 3 ["one","other"] ["one","other"] (aCe K p3):=okN λ_ _ _ _ _ _ _ nd hr=>(aA (aS (aR (d3.mono (by decide)) hr rfl (cE (bD bZ (aU (aN (K:=K) rfl) (pv 0) aH (λ_ _=>rfl)) (aU (aN (K:=K) rfl) (pv 1) aH (λ_ _=>rfl))) (cE (bD bZ (aU (aN (K:=K) rfl) (pv 0) aH (λ_ _=>rfl)) (aU (aN (K:=K) rfl) (pv 1) aH (λ_ _=>rfl))) aE)))) aF)
def wU (K:ae) : TS:=(aP (cS (tOp yLt (tOp dQ (tOp (aZ K) (aD 0) (tC (.int 0))) (tOp (aZ K) (aD 1) (tC (.int 1)))) (tOp dQ (tOp (aZ K) (aD 1) (tC (.int 0))) (tOp (aZ K) (aD 0) (tC (.int 1)))))) aK)
def aBg : OkN P w K mg base "is_less" (top 13) 1 ["one","other"] ["one","other"] (wU K):=okN λ_ _ _ _ _ _ _ nd hr=>(aA (aS (cG fK (bD bZ (aU (aN (K:=K) rfl) (pv 0) aH (λ_ _=>rfl)) (aU (aN (K:=K) rfl) (pv 1) aH (λ_ _=>rfl))) (bD bZ (aU (aN (K:=K) rfl) (pv 1) aH (λ_ _=>rfl)) (aU (aN (K:=K) rfl) (pv 0) aH (λ_ _=>rfl))) (aW _))) aF)
def iE (K:ae) (p1:Sp):TS:=(aP (bO (tC (.int 1)) (aJ 1)) (aP (kL (fU K (aD 0)) (jI K 2 (bN (aJ 2) (bN (aJ 3) jU))) (aP (bO (tOp dQ (aD 1) (tOp pE (aD 3) (aY p1 [] E0 (aC (aD 1) (aC (aD 3) aQ))))) (aJ 1)) aK)) (aP (cS (aD 1)) aK)))
def nE : OkN P w K mg base "common_bottom" (top 14) 2 ["some","common","top","bottom"] ["some"] (iE K p1):=okN λ_ _ _ _ _ _ _ nd hr=>(aA (bA (i:=1) nd rfl (.inl rfl) aH) (aA (dG dh rfl (bE (K:=K) rfl (pv 0)) (bY (K:=K) rfl rfl (aO (aL (i:=2) nd rfl (Or.inl rfl)) (aO (aL (i:=3) nd rfl (Or.inl rfl)) bU))) (aA (bA (i:=1) nd rfl (.inl rfl) (bD bZ (pv 1) (bD fV (pv 3) (aR (d1.mono (by decide)) hr rfl (aB (pv 1) (aB (pv 3) aE)))))) aF)) (aA (aS (pv 1)) aF)))
def oG (K:ae) : TS:=(aP (cS (cV [none,none,some 1] (fU K (aD 0)) (jI K 2 (bN (aJ 0) (bN (aJ 1) jU))) [] λacc=>(cP (tOp dQ (aD 0) (tOp pE (aD 2) (aD 1))) acc))) aK)
def wP : OkN P w K mg base "tops_over" (top 15) 1 ["some","bottom"] ["some","bottom"] (oG K):=okN λ_ _ _ _ _ _ _ nd hr=>(aA (aS (bW (N':=["top","own","bottom"]) (ix:=[none,none,some 1]) rfl rfl rfl (bE (K:=K) rfl (pv 0)) (λ_ _ _=>(bY (K:=K) rfl rfl (aO (aL (i:=0) (show(["top","own","bottom"]:List Str).Nodup from by decide+kernel) rfl (Or.inl rfl)) (aO (aL (i:=1) (show(["top","own","bottom"]:List Str).Nodup from by decide+kernel) rfl (Or.inl rfl)) bU)))) (λ_ _ _ => .nil) (λ_ _ _ _=>(bG rfl (bD bZ (pv 0) (bD fV (pv 2) (pv 1))) rfl)))) aF)
def aBH (K:ae) (p4:Sp) (p3:Sp) (p5:Sp):TS:=(aP (bO (aY p4 [] E0 (aC (aD 0) aQ)) (aJ 1)) (aP (cS (aY p3 [] E0 (aC (tCB (aLa K) (aC (aY p5 [] E0 (aC (aD 0) (aC (aD 1) aQ))) aQ)) (aC (aD 1) aQ)))) aK))
def aDN : OkN P w K mg base "total" (top 16) 3 ["some","bottom"] ["some"] (aBH K p4 p3 p5):=okN λ_ _ _ _ _ _ _ nd hr=>(aA (bA (i:=1) nd rfl (.inl rfl) (aR (d4.mono (by decide)) hr rfl (aB (pv 0) aE))) (aA (aS (aR (d3.mono (by decide)) hr rfl (cA (aM (aBE (K:=K) rfl rfl) rfl B.sum aHH (cA (aR (d5.mono (by decide)) hr rfl (aB (pv 0) (aB (pv 1) aE))) aE)) (aB (pv 1) aE)))) aF))
def xB (K:ae) : TS:=(aP (bO (tCB (iA K) (aC (aD 0) aQ)) (aJ 1)) (aP (cS (tCB (aFY K) (aC (cV [none,none,some 0] (iC (aC (aD 1) aQ)) (aJ 0) [] λacc=>(kL (iC (aC (aD 0) aQ)) (aJ 1) (iG [] (cP (tOp (gE K) (tOp (aZ K) (tOp (aZ K) (aD 2) (aD 0)) (aD 1)) (tOp (aZ K) (tOp (aZ K) (aD 2) (aD 1)) (aD 0))) acc)))) aQ))) aK))
def aBo : OkN P w K mg base "is_even" (top 18) 1 ["table","many"] ["table"] (xB K):=okN λ_ _ _ _ _ _ _ nd hr=>(aA (bA (i:=1) nd rfl (.inl rfl) (aM (aV (K:=K) rfl) rfl B.len cD (aB (pv 0) aE))) (aA (aS (aM (gI (K:=K) rfl rfl) rfl B.all rV (cK (bW (N':=["i","j","table"]) (ix:=[none,none,some 0]) rfl rfl rfl (cH rfl B.range (aB (pv 1) aE)) (λ_ _ _=>(aL (i:=0) (show(["i","j","table"]:List Str).Nodup from by decide+kernel) rfl (Or.inl rfl))) (λ_ _ _ => .nil) (λ_ _ _ _=>(aBG rfl rfl rfl (λ_ h=>by first | (cases h;rfl) | cases h) (cH rfl B.range (aB (pv 0) aE)) (aL (i:=1) (show(["i","j","table"]:List Str).Nodup from by decide+kernel) rfl (Or.inl rfl)) .nil (bG rfl (cG (dR (K:=K) rfl hr) (aU (aN (K:=K) rfl) (aU (aN (K:=K) rfl) (pv 2) (pv 0) (λ_ _=>rfl)) (pv 1) (λ_ _=>rfl)) (aU (aN (K:=K) rfl) (aU (aN (K:=K) rfl) (pv 2) (pv 1) (λ_ _=>rfl)) (pv 0) (λ_ _=>rfl)) (aW _)) rfl)))) aE))) aF))
def jB (K:ae) (c0:Addr) (c1:Addr) (c2:Addr) (E:XK) (p6:Sp):TS:=(aP (dP (iP (tB (aY p6 [] E0 (aC (aD 0) aQ)))) (aP (vZ c0 E) aK) aK) (aP (dP (bH (tOp yLt (tCB (iA K) (aC (aD 0) aQ)) (tC (.int 3)))) (aP (vZ c1 E) aK) aK) (aP (dP (bH (tOp yGt (tCB (iA K) (aC (aD 0) aQ)) (tC (.int 6)))) (aP (vZ c2 E) aK) aK) aK)))
def pP : OkX P w K mg base "refuse_unfit" (top 23) 2 ["table"] ["table"] (λE=>jB K c0 c1 c2 E p6):=okX λ_ _ _ _ _ _ E nd hr=>(aA (cJ (PT.nox (cF (bS (aR (d6.mono (by decide)) hr rfl (aB (pv 0) aE))))) (aA (oV (K:=K) rfl lR rfl rfl e0 x0) aF) aF) (aA (cJ (PT.nox (aX fK (aM (aV (K:=K) rfl) rfl B.len cD (aB (pv 0) aE)) (oZ rfl g0 ⟨_,rfl⟩) (aW _))) (aA (oV (K:=K) rfl lR rfl rfl e1 x1) aF) aF) (aA (cJ (PT.nox (aX oT (aM (aV (K:=K) rfl) rfl B.len cD (aB (pv 0) aE)) (oZ rfl g1 ⟨_,rfl⟩) (aW _))) (aA (oV (K:=K) rfl lR rfl rfl e2 x2) aF) aF) aF)))
def pD (K:ae) : TS:=(aP (cS (cV [none,none,some 0] (iC (aC (aD 0) aQ)) (aJ 0) [] λacc=>(kL (aGf (aC (tOp (dD K) (aD 0) (tC (.int 1))) (aC (aD 2) aQ))) (aJ 1) (iG [] (cP (lS (aC (aD 0) (aC (aD 1) aQ))) acc))))) aK)
def vG : OkN P w K mg base "all_pairs" (top 24) 1 ["many"] ["many"] (pD K):=okN λ_ _ _ _ _ _ _ nd hr=>(aA (aS (bW (N':=["i","j","many"]) (ix:=[none,none,some 0]) rfl rfl rfl (cH rfl B.range (aB (pv 0) aE)) (λ_ _ _=>(aL (i:=0) (show(["i","j","many"]:List Str).Nodup from by decide+kernel) rfl (Or.inl rfl))) (λ_ _ _ => .nil) (λ_ _ _ _=>(aBG rfl rfl rfl (λ_ h=>by first | (cases h;rfl) | cases h) (vN rfl B.range (cE (bD (bV (K:=K) rfl) (pv 0) aH) (aB (pv 2) aE))) (aL (i:=1) (show(["i","j","many"]:List Str).Nodup from by decide+kernel) rfl (Or.inl rfl)) .nil (bG rfl (dF (aB (pv 0) (aB (pv 1) aE))) rfl))))) aF)
def rB (K:ae) : TS:=(aP (bO (aAP (aC (lS aQ) aQ)) (aJ 1)) (aP (kL (iC (aC (aD 0) aQ)) (aJ 2) (aP (bO (tOp (dD K) (aD 1) (cV [none,some 2] (fU K (aD 1)) (aJ 0) [] λacc=>(cP (tOp (dD K) (aD 0) (lS (aC (aD 1) aQ))) acc))) (aJ 1)) aK)) (aP (cS (tSl (aCu K) (aD 1) (lI (tC (.int 1))) (lI (tUn xU (tC (.int 1)))))) aK)))
def yD : OkN P w K mg base "all_sets" (top 25) 1 ["many","sets","place"] ["many"] (rB K):=okN λ_ _ _ _ _ _ _ nd hr=>(aA (bA (i:=1) nd rfl (.inl rfl) (gJ (gQ (dF aE) aE))) (aA (dG dh rfl (cH rfl B.range (aB (pv 0) aE)) (aL (i:=2) nd rfl (Or.inr rfl)) (aA (bA (i:=1) nd rfl (.inl rfl) (bD (bV (K:=K) rfl) (pv 1) (bW (N':=["some","place"]) (ix:=[none,some 2]) rfl rfl rfl (bE (K:=K) rfl (pv 1)) (λ_ _ _=>(aL (i:=0) (show(["some","place"]:List Str).Nodup from by decide+kernel) rfl (Or.inl rfl))) (λ_ _ _ => .nil) (λ_ _ _ _=>(bG rfl (bD (bV (K:=K) rfl) (pv 0) (dF (aB (pv 1) aE))) rfl))))) aF)) (aA (aS (eU (qJ (K:=K) rfl) (pv 1) (eZ aH) (eZ (jN fO aH)))) aF)))
def pR (K:ae) : TS:=(aP (cS (tOp (vA K) (tOp (rIn K false) (aD 1) (aD 0)) (tOp (rIn K false) (aD 2) (aD 0)))) aK)
def wK : OkN P w K mg base "does_part" (top 26) 1 ["some","i","j"] ["some","i","j"] (pR K):=okN λ_ _ _ _ _ _ _ nd hr=>(aA (aS (cG (fE (K:=K) rfl hr) (cG (aAh (K:=K) rfl) (pv 1) (pv 0) rfl) (cG (aAh (K:=K) rfl) (pv 2) (pv 0) rfl) (aW _))) aF)
def aAp (K:ae) (E:XK) (p7:Sp) (p8:Sp) (p9:Sp) (p3:Sp) (p10:Sp) (p11:Sp) (p12:Sp):TS:=(aP (nG (aY p12 [] E (aC (aD 0) aQ))) (aP (bO (aY p7 [] E0 (aC (tCB (iA K) (aC (aD 0) aQ)) aQ)) (aJ 1)) (aP (bO (aY p10 [] E0 (aC (tCB (iA K) (aC (aD 0) aQ)) aQ)) (aJ 2)) (aP (bO (aY p9 [] E0 (aC (aD 0) (aC (aD 1) (aC (aD 2) aQ)))) (aJ 3)) (aP (bO (cV [none,some 2] (iC (aC (tCB (iA K) (aC (aD 1) aQ)) aQ)) (aJ 0) [] λacc=>(cP (tOp (dD K) (tCB (iA K) (aC (aD 1) aQ)) (aD 0)) acc)) (aJ 4)) (aP (bO (aY p8 [] E0 (aC (aD 3) (aC (aD 4) aQ))) (aJ 5)) (aP (bO (tSl (aCu K) (tOp (aZ K) (aD 3) (tUn xU (tC (.int 1)))) (lI (tCB (iA K) (aC (aD 2) aQ))) (lI (tUn xU (tC (.int 1))))) (aJ 6)) (aP (bO (cV [none,none,none,some 5] (aHh K (aC (aD 1) (aC (aD 6) aQ))) (jI K 2 (bN (jI K 2 (bN (aJ 0) (bN (aJ 1) jU))) (bN (aJ 2) jU))) [(bH (tOp yGt (aD 2) (tC (.int 0))))] λacc=>(cP (lS (aC (aD 0) (aC (aD 1) (aC (aY p3 [] E0 (aC (aD 2) (aC (aD 3) aQ))) aQ)))) acc)) (aJ 7)) (aP (cS (lS (aC (aY p3 [] E0 (aC (tOp (aZ K) (tOp (aZ K) (aD 3) (tUn xU (tC (.int 1)))) (tUn xU (tC (.int 1)))) (aC (aD 5) aQ))) (aC (aD 7) (aC (aY p11 [] E0 (aC (aD 2) (aC (aD 3) (aC (aD 4) (aC (aD 5) aQ))))) aQ))))) aK)))))))))
def aDn : OkX P w K mg base "shares" (top 27) 4 ["table","pairs","steps","rows","held","bottom","tops","found"] ["table"] (λE=>aAp K E p7 p8 p9 p3 p10 p11 p12):=okX λ_ _ _ _ _ _ E nd hr=>(aA (gD (lM (y0.mono (by decide)) hr rfl lC (aB (pv 0) aE))) (aA (PS.nox (bA (i:=1) nd rfl (.inl rfl) (aR (d7.mono (by decide)) hr rfl (cA (aM (aV (K:=K) rfl) rfl B.len cD (aB (pv 0) aE)) aE)))) (aA (PS.nox (bA (i:=2) nd rfl (.inr rfl) (aR (d10.mono (by decide)) hr rfl (cA (aM (aV (K:=K) rfl) rfl B.len cD (aB (pv 0) aE)) aE)))) (aA (PS.nox (bA (i:=3) nd rfl (.inl rfl) (aR (d9.mono (by decide)) hr rfl (aB (pv 0) (aB (pv 1) (aB (pv 2) aE)))))) (aA (PS.nox (cX (i:=4) nd rfl (Or.inl rfl) (N':=["at","steps"]) (ix:=[none,some 2]) rfl rfl rfl (cH rfl B.range (cA (aM (aV (K:=K) rfl) rfl B.len cD (aB (pv 1) aE)) aE)) (λ_ _ _=>(aL (i:=0) (show(["at","steps"]:List Str).Nodup from by decide+kernel) rfl (Or.inl rfl))) (λ_ _ _ => .nil) (λ_ _ _ _=>(bG rfl (bD (bV (K:=K) rfl) (aM (aV (K:=K) rfl) rfl B.len cD (aB (pv 1) aE)) (pv 0)) rfl)))) (aA (PS.nox (bA (i:=5) nd rfl (.inr rfl) (aR (d8.mono (by decide)) hr rfl (aB (pv 3) (aB (pv 4) aE))))) (aA (PS.nox (bA (i:=6) nd rfl (.inl rfl) (eU (qJ (K:=K) rfl) (aU (aN (K:=K) rfl) (pv 3) (jN fO aH) (λ_ _=>rfl)) (eZ (aM (aV (K:=K) rfl) rfl B.len cD (aB (pv 2) aE))) (eZ (jN fO aH))))) (aA (PS.nox (cX (i:=7) nd rfl (Or.inl rfl) (N':=["i","j","top","bottom"]) (ix:=[none,none,none,some 5]) rfl rfl rfl (tE (K:=K) rfl rfl B.zip (aB (pv 1) (aB (pv 6) aE))) (λ_ _ _=>(bY (K:=K) rfl rfl (aO (bY (K:=K) rfl rfl (aO (aL (i:=0) (show(["i","j","top","bottom"]:List Str).Nodup from by decide+kernel) rfl (Or.inl rfl)) (aO (aL (i:=1) (show(["i","j","top","bottom"]:List Str).Nodup from by decide+kernel) rfl (Or.inl rfl)) bU))) (aO (aL (i:=2) (show(["i","j","top","bottom"]:List Str).Nodup from by decide+kernel) rfl (Or.inl rfl)) bU)))) (λ_ _ _=>(.cons (aX oT (pv 2) aH (aW _)) .nil)) (λ_ _ _ _=>(bG rfl (dF (aB (pv 0) (aB (pv 1) (cA (aR (d3.mono (by decide)) hr rfl (aB (pv 2) (aB (pv 3) aE))) aE)))) rfl)))) (aA (PS.nox (aS (dF (cA (aR (d3.mono (by decide)) hr rfl (bL (aU (aN (K:=K) rfl) (aU (aN (K:=K) rfl) (pv 3) (jN fO aH) (λ_ _=>rfl)) (jN fO aH) (λ_ _=>rfl)) (aB (pv 5) aE))) (aB (pv 7) (cA (aR (d11.mono (by decide)) hr rfl (aB (pv 2) (aB (pv 3) (aB (pv 4) (aB (pv 5) aE))))) aE)))))) aF)))))))))
def jZ (K:ae) (p13:Sp):TS:=(aP (bO (cV [none,some 0] (fU K (aY p13 [] E0 (aC (aD 0) aQ))) (aJ 0) [(tOr (bH (tOp (gE K) (aD 0) (lS (aC (tC (.int 0)) aQ)))) (aFo (bH (tOp (rIn K true) (tC (.int 0)) (aD 0))) (bH (tOp yLt (tCB (iA K) (aC (aD 0) aQ)) (tOp oX (aD 1) (tC (.int 1)))))))] λacc=>(cP (aD 0) acc)) (aJ 1)) (aP (cS (tOp (dD K) (cV [none] (fU K (aD 1)) (aJ 0) [] λacc=>(cP (lS (aC (aD 0) (aC (tC (.int 1)) aQ))) acc)) (cV [none] (fU K (aD 1)) (aJ 0) [(bH (tOp (gE K) (tCB (iA K) (aC (aD 0) aQ)) (tC (.int 1))))] λacc=>(cP (lS (aC (aD 0) (aC (tUn xU (tC (.int 1))) aQ))) acc)))) aK))
def qI : OkN P w K mg base "price_steps" (top 28) 2 ["many","sets"] ["many"] (jZ K p13):=okN λ_ _ _ _ _ _ _ nd hr=>(aA (cX (i:=1) nd rfl (Or.inl rfl) (N':=["some","many"]) (ix:=[none,some 0]) rfl rfl rfl (bE (K:=K) rfl (aR (d12.mono (by decide)) hr rfl (aB (pv 0) aE))) (λ_ _ _=>(aL (i:=0) (show(["some","many"]:List Str).Nodup from by decide+kernel) rfl (Or.inl rfl))) (λ_ _ _=>(.cons (PW.pt (eY (aX (dR (K:=K) rfl hr) (pv 0) (dF (bX aH aE)) (aW _)) (dH (PW.pt (sH (aX (aCA (K:=K) rfl) aH (pv 0) rfl) (lX (aX fK (aM (aV (K:=K) rfl) rfl B.len cD (aB (pv 0) aE)) (bD oM (pv 1) aH) (aW _)))))))) .nil)) (λ_ _ _ _=>(bG rfl (pv 0) rfl))) (aA (aS (bD (bV (K:=K) rfl) (bW (N':=["some"]) (ix:=[none]) rfl rfl rfl (bE (K:=K) rfl (pv 1)) (λ_ _ _=>(aL (i:=0) (show(["some"]:List Str).Nodup from by decide+kernel) rfl (Or.inl rfl))) (λ_ _ _ => .nil) (λ_ _ _ _=>(bG rfl (dF (aB (pv 0) (bX aH aE))) rfl))) (bW (N':=["some"]) (ix:=[none]) rfl rfl rfl (bE (K:=K) rfl (pv 1)) (λ_ _ _=>(aL (i:=0) (show(["some"]:List Str).Nodup from by decide+kernel) rfl (Or.inl rfl))) (λ_ _ _=>(.cons (aX (dR (K:=K) rfl hr) (aM (aV (K:=K) rfl) rfl B.len cD (aB (pv 0) aE)) aH (aW _)) .nil)) (λ_ _ _ _=>(bG rfl (dF (aB (pv 0) (aEd (jN fO aH) aE))) rfl))))) aF))
def mH (K:ae) (p14:Sp):TS:=(aP (bO (aAP aQ) (aJ 3)) (aP (kL (fU K (aD 1)) (jI K 2 (bN (aJ 4) (bN (aJ 5) jU))) (aP (bO (cV [none,none,some 4,some 5] (fU K (aD 2)) (jI K 2 (bN (aJ 0) (bN (aJ 1) jU))) [] λacc=>(cP (tIf (tB (aY p14 [] E0 (aC (aD 0) (aC (aD 2) (aC (aD 3) aQ))))) (aD 1) (tC (.int 0))) acc)) (aJ 6)) (aP (nG (tBM K "list" lH (aD 3) (aC (tOp (dD K) (tOp (dD K) (aD 6) (cV [none,some 4,some 5] (fU K (aD 1)) (aJ 0) [] λacc=>(cP (tIf (bH (tOp (gE K) (aD 0) (lS (aC (aD 1) (aC (aD 2) aQ))))) (tC (.int 1)) (tC (.int 0))) acc))) (aAP (aC (tOp (aZ K) (tOp (aZ K) (aD 0) (aD 4)) (aD 5)) aQ))) aQ))) aK))) (aP (cS (tOp (dD K) (aD 3) (aAP (aC (tOp (dD K) (tOp (dD K) (cV [none,none] (fU K (aD 2)) (jI K 2 (bN (aJ 0) (bN (aJ 1) jU))) [] λacc=>(cP (tOp dQ (tUn xU (tC (.int 2))) (aD 1)) acc)) (cV [none] (fU K (aD 1)) (aJ 0) [] λacc=>(cP (tC (.int 0)) acc))) (aAP (aC (tC (.int 0)) aQ))) aQ)))) aK)))
def uB : OkN P w K mg base "first_rows" (top 29) 2 ["table","pairs","steps","rows","i","j","taken"] ["table","pairs","steps"] (mH K p14):=okN λ_ _ _ _ _ _ _ nd hr=>(aA (bA (i:=3) nd rfl (.inl rfl) (gJ aE)) (aA (dG dh rfl (bE (K:=K) rfl (pv 1)) (bY (K:=K) rfl rfl (aO (aL (i:=4) nd rfl (Or.inr rfl)) (aO (aL (i:=5) nd rfl (Or.inr rfl)) bU))) (aA (cX (i:=6) nd rfl (Or.inl rfl) (N':=["some","sign","i","j"]) (ix:=[none,none,some 4,some 5]) rfl rfl rfl (bE (K:=K) rfl (pv 2)) (λ_ _ _=>(bY (K:=K) rfl rfl (aO (aL (i:=0) (show(["some","sign","i","j"]:List Str).Nodup from by decide+kernel) rfl (Or.inl rfl)) (aO (aL (i:=1) (show(["some","sign","i","j"]:List Str).Nodup from by decide+kernel) rfl (Or.inl rfl)) bU)))) (λ_ _ _ => .nil) (λ_ _ _ _=>(bG rfl (aAx (bS (aR (d13.mono (by decide)) hr rfl (aB (pv 0) (aB (pv 2) (aB (pv 3) aE))))) (pv 1) aH) rfl))) (aA (gD (xA (K:=K) rfl jj j4 j5 gG (pv 3) (cE (bD (bV (K:=K) rfl) (bD (bV (K:=K) rfl) (pv 6) (bW (N':=["pair","i","j"]) (ix:=[none,some 4,some 5]) rfl rfl rfl (bE (K:=K) rfl (pv 1)) (λ_ _ _=>(aL (i:=0) (show(["pair","i","j"]:List Str).Nodup from by decide+kernel) rfl (Or.inl rfl))) (λ_ _ _ => .nil) (λ_ _ _ _=>(bG rfl (aAx (aX (dR (K:=K) rfl hr) (pv 0) (dF (aB (pv 1) (aB (pv 2) aE))) (aW _)) aH aH) rfl)))) (gJ (bL (aU (aN (K:=K) rfl) (aU (aN (K:=K) rfl) (pv 0) (pv 4) (λ_ _=>rfl)) (pv 5) (λ_ _=>rfl)) aE))) aE))) aF))) (aA (aS (bD (bV (K:=K) rfl) (pv 3) (gJ (cE (bD (bV (K:=K) rfl) (bD (bV (K:=K) rfl) (bW (N':=["some","sign"]) (ix:=[none,none]) rfl rfl rfl (bE (K:=K) rfl (pv 2)) (λ_ _ _=>(bY (K:=K) rfl rfl (aO (aL (i:=0) (show(["some","sign"]:List Str).Nodup from by decide+kernel) rfl (Or.inl rfl)) (aO (aL (i:=1) (show(["some","sign"]:List Str).Nodup from by decide+kernel) rfl (Or.inl rfl)) bU)))) (λ_ _ _ => .nil) (λ_ _ _ _=>(bG rfl (bD bZ (jN fO aH) (pv 1)) rfl))) (bW (N':=["pair"]) (ix:=[none]) rfl rfl rfl (bE (K:=K) rfl (pv 1)) (λ_ _ _=>(aL (i:=0) (show(["pair"]:List Str).Nodup from by decide+kernel) rfl (Or.inl rfl))) (λ_ _ _ => .nil) (λ_ _ _ _=>(bG rfl aH rfl)))) (gJ (bX aH aE))) aE)))) aF)))
def aDu (K:ae) (p15:Sp) (p16:Sp) (p17:Sp):TS:=(aP (bO (tC (.int 1)) (aJ 2)) (aP (bO (aY p15 [] E0 (aC (aD 0) aQ)) (aJ 3)) (aP (aAQ (bH (tOp pF (aD 3) (tC .non))) (aP (bO (aY p16 [] E0 (aC (aD 0) (aC (aD 1) (aC (aD 3) aQ)))) (aJ 4)) (aP (nG (aY p17 [] E0 (aC (aD 0) (aC (aD 4) (aC (aD 3) (aC (aD 2) aQ)))))) (aP (bO (aD 3) (lJ (aD 1) (aD 4) eO)) (aP (bO (tOp (aZ K) (tOp (aZ K) (aD 0) (aD 4)) (aD 3)) (aJ 2)) (aP (bO (aY p15 [] E0 (aC (aD 0) aQ)) (aJ 3)) aK)))))) (aP (cS (aD 2)) aK))))
def aEf : OkN P w K mg base "climb" (top 30) 3 ["rows","held","bottom","column","at"] ["rows","held"] (aDu K p15 p16 p17):=okN λ_ _ _ _ _ _ _ nd hr=>(aA (bA (i:=2) nd rfl (.inl rfl) aH) (aA (bA (i:=3) nd rfl (.inl rfl) (aR (d14.mono (by decide)) hr rfl (aB (pv 0) aE))) (aA (tZ dh (aX pB (pv 3) aAq (aW _)) (aA (bA (i:=4) nd rfl (.inl rfl) (aR (d15.mono (by decide)) hr rfl (aB (pv 0) (aB (pv 1) (aB (pv 3) aE))))) (aA (gD (aR (d16.mono (by decide)) hr rfl (aB (pv 0) (aB (pv 4) (aB (pv 3) (aB (pv 2) aE)))))) (aA (fB (pv 3) (kE (pv 1) (pv 4) fH)) (aA (bA (i:=2) nd rfl (.inl rfl) (aU (aN (K:=K) rfl) (aU (aN (K:=K) rfl) (pv 0) (pv 4) (λ_ _=>rfl)) (pv 3) (λ_ _=>rfl))) (aA (bA (i:=3) nd rfl (.inl rfl) (aR (d14.mono (by decide)) hr rfl (aB (pv 0) aE))) aF)))))) (aA (aS (pv 2)) aF))))
def iJ (K:ae) : TS:=(aP (kL (aEp K (aC (tSl (aCu K) (tOp (aZ K) (aD 0) (tUn xU (tC (.int 1)))) gP (lI (tUn xU (tC (.int 1))))) aQ)) (jI K 2 (bN (aJ 1) (bN (aJ 2) jU))) (aP (dP (bH (tOp yLt (aD 2) (tC (.int 0)))) (aP (cS (aD 1)) aK) aK) aK)) (aP (cS (tC .non)) aK))
def nD : OkN P w K mg base "rising_column" (top 31) 1 ["rows","column","turned"] ["rows"] (iJ K):=okN λ_ _ _ _ _ _ _ nd hr=>(aA (dG dh rfl (aAf (K:=K) rfl rfl B.enumerate (bL (eU (qJ (K:=K) rfl) (aU (aN (K:=K) rfl) (pv 0) (jN fO aH) (λ_ _=>rfl)) iQ (eZ (jN fO aH))) aE)) (bY (K:=K) rfl rfl (aO (aL (i:=1) nd rfl (Or.inl rfl)) (aO (aL (i:=2) nd rfl (Or.inl rfl)) bU))) (aA (cJ (aX fK (pv 2) aH (aW _)) (aA (aS (pv 1)) aF) aF) aF)) (aA (aS aAq) aF))
def jH (K:ae) (p18:Sp):TS:=(aP (bO (tC .non) (aJ 3)) (aP (kL (aEp K (aC (tSl (aCu K) (aD 0) gP (lI (tUn xU (tC (.int 1))))) aQ)) (jI K 2 (bN (aJ 4) (bN (aJ 5) jU))) (aP (dP (aFo (bH (tOp yGt (tOp (aZ K) (aD 5) (aD 2)) (tC (.int 0)))) (tOr (bH (tOp aLh (aD 3) (tC .non))) (tB (aY p18 [] E0 (aC (aD 0) (aC (aD 1) (aC (aD 2) (aC (aD 4) (aC (aD 3) aQ))))))))) (aP (bO (aD 4) (aJ 3)) aK) aK) aK)) (aP (cS (aD 3)) aK)))
def oF : OkN P w K mg base "tightest_row" (top 32) 2 ["rows","held","column","best","at","row"] ["rows","held","column"] (jH K p18):=okN λ_ _ _ _ _ _ _ nd hr=>(aA (bA (i:=3) nd rfl (.inl rfl) aAq) (aA (dG dh rfl (aAf (K:=K) rfl rfl B.enumerate (bL (eU (qJ (K:=K) rfl) (pv 0) iQ (eZ (jN fO aH))) aE)) (bY (K:=K) rfl rfl (aO (aL (i:=4) nd rfl (Or.inl rfl)) (aO (aL (i:=5) nd rfl (Or.inl rfl)) bU))) (aA (cJ (PW.pt (sH (aX oT (aU (aN (K:=K) rfl) (pv 5) (pv 2) (λ_ _=>rfl)) aH (aW _)) (lX (PW.pt (eY (aX aIX (pv 3) aAq (aW _)) (dH (bS (aR (d17.mono (by decide)) hr rfl (aB (pv 0) (aB (pv 1) (aB (pv 2) (aB (pv 4) (aB (pv 3) aE))))))))))))) (aA (bA (i:=3) nd rfl (.inl rfl) (pv 4)) aF) aF) aF)) (aA (aS (pv 3)) aF)))
def mY (K:ae) : TS:=(aP (bO (tOp dQ (tOp (aZ K) (tOp (aZ K) (aD 0) (aD 3)) (tUn xU (tC (.int 1)))) (tOp (aZ K) (tOp (aZ K) (aD 0) (aD 4)) (aD 2))) (aJ 5)) (aP (bO (tOp dQ (tOp (aZ K) (tOp (aZ K) (aD 0) (aD 4)) (tUn xU (tC (.int 1)))) (tOp (aZ K) (tOp (aZ K) (aD 0) (aD 3)) (aD 2))) (aJ 6)) (aP (cS (aKh (tOp yLt (aD 5) (aD 6)) (sS (tOp (gE K) (aD 5) (aD 6)) (tOp yLt (tOp (aZ K) (aD 1) (aD 3)) (tOp (aZ K) (aD 1) (aD 4)))))) aK)))
def uO : OkN P w K mg base "is_tighter" (top 33) 1 ["rows","held","column","at","other","one_room","other_room"] ["rows","held","column","at","other"] (mY K):=okN λ_ _ _ _ _ _ _ nd hr=>(aA (bA (i:=5) nd rfl (.inl rfl) (bD bZ (aU (aN (K:=K) rfl) (aU (aN (K:=K) rfl) (pv 0) (pv 3) (λ_ _=>rfl)) (jN fO aH) (λ_ _=>rfl)) (aU (aN (K:=K) rfl) (aU (aN (K:=K) rfl) (pv 0) (pv 4) (λ_ _=>rfl)) (pv 2) (λ_ _=>rfl)))) (aA (bA (i:=6) nd rfl (.inl rfl) (bD bZ (aU (aN (K:=K) rfl) (aU (aN (K:=K) rfl) (pv 0) (pv 4) (λ_ _=>rfl)) (jN fO aH) (λ_ _=>rfl)) (aU (aN (K:=K) rfl) (aU (aN (K:=K) rfl) (pv 0) (pv 3) (λ_ _=>rfl)) (pv 2) (λ_ _=>rfl)))) (aA (aS (aIF (cG fK (pv 5) (pv 6) (aW _)) (kK (mI (cG (dR (K:=K) rfl hr) (pv 5) (pv 6) (aW _)) (kK (cG fK (aU (aN (K:=K) rfl) (pv 1) (pv 3) (λ_ _=>rfl)) (aU (aN (K:=K) rfl) (pv 1) (pv 4) (λ_ _=>rfl)) (aW _))))))) aF)))
def aFm (K:ae) : TS:=(aP (bO (tOp (aZ K) (aD 0) (aD 1)) (aJ 4)) (aP (kL (iC (aC (tCB (iA K) (aC (aD 0) aQ)) aQ)) (aJ 5) (aP (dP (bH (tOp (vA K) (aD 5) (aD 1))) (aP (bO (tOp (aZ K) (tOp (aZ K) (aD 0) (aD 5)) (aD 2)) (aJ 6)) (aP (bO (cV [none,none,some 4,some 2,some 6,some 3] (aHh K (aC (tOp (aZ K) (aD 0) (aD 5)) (aC (aD 4) aQ))) (jI K 2 (bN (aJ 0) (bN (aJ 1) jU))) [] λacc=>(cP (tOp pE (tOp oX (tOp dQ (aD 0) (tOp (aZ K) (aD 2) (aD 3))) (tOp dQ (aD 4) (aD 1))) (aD 5)) acc)) (lJ (aD 0) (aD 5) eO)) aK)) aK) aK)) aK))
def aFW : OkN P w K mg base "turn" (top 34) 1 ["rows","at","column","bottom","pivot","other","factor"] ["rows","at","column","bottom"] (aFm K):=okN λ_ _ _ _ _ _ _ nd hr=>(aA (bA (i:=4) nd rfl (.inr rfl) (aU (aN (K:=K) rfl) (pv 0) (pv 1) (λ_ _=>rfl))) (aA (dG dh rfl (cH rfl B.range (cA (aM (aV (K:=K) rfl) rfl B.len cD (aB (pv 0) aE)) aE)) (aL (i:=5) nd rfl (Or.inl rfl)) (aA (cJ (aX (fE (K:=K) rfl hr) (pv 5) (pv 1) (aW _)) (aA (bA (i:=6) nd rfl (.inr rfl) (aU (aN (K:=K) rfl) (aU (aN (K:=K) rfl) (pv 0) (pv 5) (λ_ _=>rfl)) (pv 2) (λ_ _=>rfl))) (aA (fB (bW (N':=["part","own","pivot","column","factor","bottom"]) (ix:=[none,none,some 4,some 2,some 6,some 3]) rfl rfl rfl (tE (K:=K) rfl rfl B.zip (bL (aU (aN (K:=K) rfl) (pv 0) (pv 5) (λ_ _=>rfl)) (aB (pv 4) aE))) (λ_ _ _=>(bY (K:=K) rfl rfl (aO (aL (i:=0) (show(["part","own","pivot","column","factor","bottom"]:List Str).Nodup from by decide+kernel) rfl (Or.inl rfl)) (aO (aL (i:=1) (show(["part","own","pivot","column","factor","bottom"]:List Str).Nodup from by decide+kernel) rfl (Or.inl rfl)) bU)))) (λ_ _ _ => .nil) (λ_ _ _ _=>(bG rfl (bD fV (bD oM (bD bZ (pv 0) (aU (aN (K:=K) rfl) (pv 2) (pv 3) (λ_ _=>rfl))) (bD bZ (pv 4) (pv 1))) (pv 5)) rfl))) (kE (pv 0) (pv 5) fH)) aF)) aF) aF)) aF))
def oK (K:ae) (p3:Sp):TS:=(aP (bO (aAP aQ) (aJ 4)) (aP (kL (aHh K (aC (aD 1) (aC (aD 2) aQ))) (jI K 2 (bN (aJ 5) (bN (aJ 6) jU))) (aP (dP (aFo (bH (tOp yLt (aD 6) (tCB (iA K) (aC (aD 0) aQ)))) (bH (tOp (vA K) (tOp (aZ K) (aD 5) (tUn xU (tC (.int 1)))) (tC (.int 0))))) (aP (bO (tOp (aZ K) (aD 0) (aD 6)) (jI K 2 (bN (aJ 7) (bN (aJ 8) jU)))) (aP (nG (tBM K "list" lH (aD 4) (aC (lS (aC (aD 7) (aC (aY p3 [] E0 (aC (tOp dQ (aD 8) (tOp (aZ K) (aD 5) (tUn xU (tC (.int 1))))) (aC (aD 3) aQ))) aQ))) aQ))) aK)) aK) aK)) (aP (cS (tCB (xX K) (aC (aD 4) aQ))) aK)))
def wS : OkN P w K mg base "told_cuts" (top 35) 3 ["steps","rows","held","bottom","cuts","row","column","some","sign"] ["steps","rows","held","bottom"] (oK K p3):=okN λ_ _ _ _ _ _ _ nd hr=>(aA (bA (i:=4) nd rfl (.inl rfl) (gJ aE)) (aA (dG dh rfl (tE (K:=K) rfl rfl B.zip (aB (pv 1) (aB (pv 2) aE))) (bY (K:=K) rfl rfl (aO (aL (i:=5) nd rfl (Or.inl rfl)) (aO (aL (i:=6) nd rfl (Or.inl rfl)) bU))) (aA (cJ (PW.pt (sH (aX fK (pv 6) (aM (aV (K:=K) rfl) rfl B.len cD (aB (pv 0) aE)) (aW _)) (lX (aX (fE (K:=K) rfl hr) (aU (aN (K:=K) rfl) (pv 5) (jN fO aH) (λ_ _=>rfl)) aH (aW _))))) (aA (fB (aU (aN (K:=K) rfl) (pv 0) (pv 6) (λ_ _=>rfl)) (bY (K:=K) rfl rfl (aO (aL (i:=7) nd rfl (Or.inl rfl)) (aO (aL (i:=8) nd rfl (Or.inl rfl)) bU)))) (aA (gD (xA (K:=K) rfl jj j4 j5 gG (pv 4) (gQ (dF (aB (pv 7) (cA (aR (d3.mono (by decide)) hr rfl (cE (bD bZ (pv 8) (aU (aN (K:=K) rfl) (pv 5) (jN fO aH) (λ_ _=>rfl))) (aB (pv 3) aE))) aE))) aE))) aF)) aF) aF)) (aA (aS (aM (wG (K:=K) rfl hr) rfl B.sorted kA (aB (pv 4) aE))) aF)))
def mP (K:ae) (c3:Addr) (E:XK) (p13:Sp) (p19:Sp) (p20:Sp) (p21:Sp) (p22:Sp) (p23:Sp) (p24:Sp) (p12:Sp):TS:=(aP (nG (aY p12 [] E (aC (aD 0) aQ))) (aP (bO (tCB (iA K) (aC (aD 0) aQ)) (aJ 3)) (aP (dP (tOr (iP (tB (tCB (aFY K) (aC (cV [none,some 3] (fU K (aD 1)) (aJ 0) [] λacc=>(cP (aY p21 [] E0 (aC (aD 1) (aC (aD 0) aQ))) acc)) aQ)))) (iP (tB (aY p19 [] E0 (aC (cV [none] (fU K (aD 1)) (aJ 0) [] λacc=>(cP (tSl (aCu K) (aD 0) gP (lI (tC (.int 2)))) acc)) aQ))))) (aP (cS (tC (.bl false))) aK) aK) (aP (dP (iP (tB (tCB (aFY K) (aC (cV [none,some 1] (iC (aC (aD 3) aQ)) (aJ 0) [] λacc=>(cP (tOp (gE K) (aY p22 [] E0 (aC (aD 1) (aC (lS (aC (aD 0) aQ)) aQ))) (tC (.ref c3))) acc)) aQ)))) (aP (cS (tC (.bl false))) aK) aK) (aP (dP (tB (tCB (aKz K) (aC (cV [none,some 1] (fU K (aY p13 [] E0 (aC (aD 3) aQ))) (aJ 0) [] λacc=>(cP (aY p20 [] E0 (aC (aY p22 [] E0 (aC (aD 1) (aC (aD 0) aQ))) (aC (tC (.ref c3)) aQ))) acc)) aQ))) (aP (cS (tC (.bl false))) aK) aK) (aP (cS (tOp (gE K) (aY p24 [] E0 (aC (cV [none,none,none,some 0] (fU K (aD 1)) (jI K 3 (bN (aJ 0) (bN (aJ 1) (bN (aJ 2) jU)))) [] λacc=>(cP (aY p23 [] E0 (aC (aD 2) (aC (lS (aC (tOp (aZ K) (tOp (aZ K) (aD 3) (aD 0)) (aD 1)) (aC (tC (.int 1)) aQ))) aQ))) acc)) aQ)) (aD 2))) aK))))))
def uM : OkX P w K mg base "are_shares" (top 36) 5 ["table","some","worth","many"] ["table","some","worth"] (λE=>mP K c3 E p13 p19 p20 p21 p22 p23 p24 p12):=okX λ_ _ _ _ _ _ E nd hr=>(aA (gD (lM (y0.mono (by decide)) hr rfl lC (aB (pv 0) aE))) (aA (PS.nox (bA (i:=3) nd rfl (.inr rfl) (aM (aV (K:=K) rfl) rfl B.len cD (aB (pv 0) aE)))) (aA (PS.nox (cJ (PW.pt (eY (cF (bS (aM (gI (K:=K) rfl rfl) rfl B.all rV (cK (bW (N':=["thing","many"]) (ix:=[none,some 3]) rfl rfl rfl (bE (K:=K) rfl (pv 1)) (λ_ _ _=>(aL (i:=0) (show(["thing","many"]:List Str).Nodup from by decide+kernel) rfl (Or.inl rfl))) (λ_ _ _ => .nil) (λ_ _ _ _=>(bG rfl (aR (d20.mono (by decide)) hr rfl (aB (pv 1) (aB (pv 0) aE))) rfl))) aE)))) (dH (cF (bS (aR (d18.mono (by decide)) hr rfl (cK (bW (N':=["thing"]) (ix:=[none]) rfl rfl rfl (bE (K:=K) rfl (pv 1)) (λ_ _ _=>(aL (i:=0) (show(["thing"]:List Str).Nodup from by decide+kernel) rfl (Or.inl rfl))) (λ_ _ _ => .nil) (λ_ _ _ _=>(bG rfl (eU (qJ (K:=K) rfl) (pv 0) iQ (eZ aH)) rfl))) aE))))))) (aA (aS dE) aF) aF)) (aA (PS.nox (cJ (cF (bS (aM (gI (K:=K) rfl rfl) rfl B.all rV (cK (bW (N':=["place","some"]) (ix:=[none,some 1]) rfl rfl rfl (cH rfl B.range (aB (pv 3) aE)) (λ_ _ _=>(aL (i:=0) (show(["place","some"]:List Str).Nodup from by decide+kernel) rfl (Or.inl rfl))) (λ_ _ _ => .nil) (λ_ _ _ _=>(bG rfl (cG (dR (K:=K) rfl hr) (aR (d21.mono (by decide)) hr rfl (aB (pv 1) (gQ (dF (aB (pv 0) aE)) aE))) (oZ (v := .ref c3) rfl e3 rfl) (aW _)) rfl))) aE)))) (aA (aS dE) aF) aF)) (aA (PS.nox (cJ (bS (aM (vQ (K:=K) rfl rfl) rfl GA aFF (cK (bW (N':=["cut","some"]) (ix:=[none,some 1]) rfl rfl rfl (bE (K:=K) rfl (aR (d12.mono (by decide)) hr rfl (aB (pv 3) aE))) (λ_ _ _=>(aL (i:=0) (show(["cut","some"]:List Str).Nodup from by decide+kernel) rfl (Or.inl rfl))) (λ_ _ _ => .nil) (λ_ _ _ _=>(bG rfl (aR (d19.mono (by decide)) hr rfl (cA (aR (d21.mono (by decide)) hr rfl (aB (pv 1) (aB (pv 0) aE))) (aB (oZ (v := .ref c3) rfl e3 rfl) aE))) rfl))) aE))) (aA (aS dE) aF) aF)) (aA (PS.nox (aS (cG (dR (K:=K) rfl hr) (aR (d23.mono (by decide)) hr rfl (cK (bW (N':=["i","j","share","table"]) (ix:=[none,none,none,some 0]) rfl rfl rfl (bE (K:=K) rfl (pv 1)) (λ_ _ _=>(bY (K:=K) rfl rfl (aO (aL (i:=0) (show(["i","j","share","table"]:List Str).Nodup from by decide+kernel) rfl (Or.inl rfl)) (aO (aL (i:=1) (show(["i","j","share","table"]:List Str).Nodup from by decide+kernel) rfl (Or.inl rfl)) (aO (aL (i:=2) (show(["i","j","share","table"]:List Str).Nodup from by decide+kernel) rfl (Or.inl rfl)) bU))))) (λ_ _ _ => .nil) (λ_ _ _ _=>(bG rfl (aR (d22.mono (by decide)) hr rfl (aB (pv 2) (gQ (dF (bL (aU (aN (K:=K) rfl) (aU (aN (K:=K) rfl) (pv 3) (pv 0) (λ_ _=>rfl)) (pv 1) (λ_ _=>rfl)) (bX aH aE))) aE))) rfl))) aE)) (pv 2) (aW _)))) aF))))))
def rE (K:ae) (p2:Sp) (p25:Sp):TS:=(aP (dP (tOr (iP (tB (tCB (vF K) (aC (aD 1) (aC (tC (.ty "tuple")) aQ))))) (tOr (bH (tOp (vA K) (tCB (iA K) (aC (aD 1) aQ)) (tC (.int 3)))) (iP (tB (aY p2 [] E0 (aC (tSl (aCu K) (aD 1) gP (lI (tC (.int 2)))) aQ)))))) (aP (cS (tC (.bl false))) aK) aK) (aP (bO (aD 1) (jI K 3 (bN (aJ 2) (bN (aJ 3) (bN (aJ 4) jU))))) (aP (cS (sS (yU yLe yLt yLt (tC (.int 0)) (aD 2) (aD 3) (aD 0)) (sS (aY p25 [] E0 (aC (aD 4) aQ)) (tOp yGt (tOp (aZ K) (aD 4) (tC (.int 0))) (tC (.int 0)))))) aK)))
def yJ : OkN P w K mg base "is_share" (top 37) 4 ["many","thing","i","j","share"] ["many","thing"] (rE K p2 p25):=okN λ_ _ _ _ _ _ _ nd hr=>(aA (cJ (PW.pt (eY (cF (bS (aM (cO (K:=K) rfl) rfl B.isi fM (aB (pv 1) (aB (eC (v := .ty "tuple") rfl B.tuple dL rfl) aE))))) (eY (aX (fE (K:=K) rfl hr) (aM (aV (K:=K) rfl) rfl B.len cD (aB (pv 1) aE)) aH (aW _)) (dH (cF (bS (aR (d2.mono (by decide)) hr rfl (bL (eU (qJ (K:=K) rfl) (pv 1) iQ (eZ aH)) aE)))))))) (aA (aS dE) aF) aF) (aA (fB (pv 1) (bY (K:=K) rfl rfl (aO (aL (i:=2) nd rfl (Or.inl rfl)) (aO (aL (i:=3) nd rfl (Or.inl rfl)) (aO (aL (i:=4) nd rfl (Or.inl rfl)) bU))))) (aA (aS (mI (vU aGj fK fK aH (pv 2) (pv 3) (pv 0)) (mI (aR (d24.mono (by decide)) hr rfl (aB (pv 4) aE)) (kK (cG oT (aU (aN (K:=K) rfl) (pv 4) aH (λ_ _=>rfl)) aH (aW _)))))) aF)))
def wM (K:ae) : TS:=(aP (cS (tCB (aFY K) (aC (cV [none,none] (aHh K (aC (aD 0) (aC (tSl (aCu K) (aD 0) (lI (tC (.int 1))) gP) aQ))) (jI K 2 (bN (aJ 0) (bN (aJ 1) jU))) [] λacc=>(cP (tOp (aKE K) (aD 0) (aD 1)) acc)) aQ))) aK)
def aBv : OkN P w K mg base "do_rise" (top 38) 1 ["some"] ["some"] (wM K):=okN λ_ _ _ _ _ _ _ nd hr=>(aA (aS (aM (gI (K:=K) rfl rfl) rfl B.all rV (cK (bW (N':=["one","other"]) (ix:=[none,none]) rfl rfl rfl (tE (K:=K) rfl rfl B.zip (aB (pv 0) (bL (eU (qJ (K:=K) rfl) (pv 0) (eZ aH) iQ) aE))) (λ_ _ _=>(bY (K:=K) rfl rfl (aO (aL (i:=0) (show(["one","other"]:List Str).Nodup from by decide+kernel) rfl (Or.inl rfl)) (aO (aL (i:=1) (show(["one","other"]:List Str).Nodup from by decide+kernel) rfl (Or.inl rfl)) bU)))) (λ_ _ _ => .nil) (λ_ _ _ _=>(bG rfl (cG (aGA (K:=K) rfl hr) (pv 0) (pv 1) (aW _)) rfl))) aE))) aF)
def rO (K:ae) (p14:Sp) (p24:Sp):TS:=(aP (cS (aY p24 [] E0 (aC (cV [none,none,none,some 1] (fU K (aD 0)) (jI K 3 (bN (aJ 0) (bN (aJ 1) (bN (aJ 2) jU)))) [(tB (aY p14 [] E0 (aC (aD 3) (aC (aD 0) (aC (aD 1) aQ)))))] λacc=>(cP (aD 2) acc)) aQ))) aK)
def yI : OkN P w K mg base "over_cut" (top 39) 4 ["some","cut"] ["some","cut"] (rO K p14 p24):=okN λ_ _ _ _ _ _ _ nd hr=>(aA (aS (aR (d23.mono (by decide)) hr rfl (cK (bW (N':=["i","j","share","cut"]) (ix:=[none,none,none,some 1]) rfl rfl rfl (bE (K:=K) rfl (pv 0)) (λ_ _ _=>(bY (K:=K) rfl rfl (aO (aL (i:=0) (show(["i","j","share","cut"]:List Str).Nodup from by decide+kernel) rfl (Or.inl rfl)) (aO (aL (i:=1) (show(["i","j","share","cut"]:List Str).Nodup from by decide+kernel) rfl (Or.inl rfl)) (aO (aL (i:=2) (show(["i","j","share","cut"]:List Str).Nodup from by decide+kernel) rfl (Or.inl rfl)) bU))))) (λ_ _ _=>(.cons (bS (aR (d13.mono (by decide)) hr rfl (aB (pv 3) (aB (pv 0) (aB (pv 1) aE))))) .nil)) (λ_ _ _ _=>(bG rfl (pv 2) rfl))) aE))) aF)
def rM (K:ae) (c3:Addr) (E:XK) (p7:Sp) (p26:Sp) (p19:Sp) (p27:Sp) (p20:Sp) (p23:Sp) (p24:Sp) (p12:Sp):TS:=(aP (nG (aY p12 [] E (aC (aD 0) aQ))) (aP (bO (tCB (iA K) (aC (aD 0) aQ)) (aJ 3)) (aP (dP (tOr (iP (tB (tCB (aFY K) (aC (cV [none,some 3] (fU K (aD 1)) (aJ 0) [] λacc=>(cP (aY p27 [] E0 (aC (aD 1) (aC (aD 0) aQ))) acc)) aQ)))) (iP (tB (aY p19 [] E0 (aC (cV [none] (fU K (aD 1)) (aJ 0) [] λacc=>(cP (tOp (aZ K) (aD 0) (tC (.int 0))) acc)) aQ))))) (aP (cS (tC (.bl false))) aK) aK) (aP (dP (tB (tCB (aKz K) (aC (cV [none,none,some 0,some 1] (fU K (aY p7 [] E0 (aC (aD 3) aQ))) (jI K 2 (bN (aJ 0) (bN (aJ 1) jU))) [] λacc=>(cP (aY p20 [] E0 (aC (lS (aC (tOp (aZ K) (tOp (aZ K) (aD 2) (aD 0)) (aD 1)) (aC (tC (.int 1)) aQ))) (aC (aY p26 [] E0 (aC (aD 3) (aC (aD 0) (aC (aD 1) aQ)))) aQ))) acc)) aQ))) (aP (cS (tC (.bl false))) aK) aK) (aP (cS (tOp (gE K) (aY p23 [] E0 (aC (tC (.ref c3)) (aC (aY p24 [] E0 (aC (cV [none,none] (fU K (aD 1)) (jI K 2 (bN (aJ 0) (bN (aJ 1) jU))) [] λacc=>(cP (aD 1) acc)) aQ)) aQ))) (aD 2))) aK)))))
def yF : OkX P w K mg base "are_cuts" (top 40) 5 ["table","some","worth","many"] ["table","some","worth"] (λE=>rM K c3 E p7 p26 p19 p27 p20 p23 p24 p12):=okX λ_ _ _ _ _ _ E nd hr=>(aA (gD (lM (y0.mono (by decide)) hr rfl lC (aB (pv 0) aE))) (aA (PS.nox (bA (i:=3) nd rfl (.inr rfl) (aM (aV (K:=K) rfl) rfl B.len cD (aB (pv 0) aE)))) (aA (PS.nox (cJ (PW.pt (eY (cF (bS (aM (gI (K:=K) rfl rfl) rfl B.all rV (cK (bW (N':=["thing","many"]) (ix:=[none,some 3]) rfl rfl rfl (bE (K:=K) rfl (pv 1)) (λ_ _ _=>(aL (i:=0) (show(["thing","many"]:List Str).Nodup from by decide+kernel) rfl (Or.inl rfl))) (λ_ _ _ => .nil) (λ_ _ _ _=>(bG rfl (aR (d26.mono (by decide)) hr rfl (aB (pv 1) (aB (pv 0) aE))) rfl))) aE)))) (dH (cF (bS (aR (d18.mono (by decide)) hr rfl (cK (bW (N':=["thing"]) (ix:=[none]) rfl rfl rfl (bE (K:=K) rfl (pv 1)) (λ_ _ _=>(aL (i:=0) (show(["thing"]:List Str).Nodup from by decide+kernel) rfl (Or.inl rfl))) (λ_ _ _ => .nil) (λ_ _ _ _=>(bG rfl (aU (aN (K:=K) rfl) (pv 0) aH (λ_ _=>rfl)) rfl))) aE))))))) (aA (aS dE) aF) aF)) (aA (PS.nox (cJ (bS (aM (vQ (K:=K) rfl rfl) rfl GA aFF (cK (bW (N':=["i","j","table","some"]) (ix:=[none,none,some 0,some 1]) rfl rfl rfl (bE (K:=K) rfl (aR (d7.mono (by decide)) hr rfl (aB (pv 3) aE))) (λ_ _ _=>(bY (K:=K) rfl rfl (aO (aL (i:=0) (show(["i","j","table","some"]:List Str).Nodup from by decide+kernel) rfl (Or.inl rfl)) (aO (aL (i:=1) (show(["i","j","table","some"]:List Str).Nodup from by decide+kernel) rfl (Or.inl rfl)) bU)))) (λ_ _ _ => .nil) (λ_ _ _ _=>(bG rfl (aR (d19.mono (by decide)) hr rfl (gQ (dF (bL (aU (aN (K:=K) rfl) (aU (aN (K:=K) rfl) (pv 2) (pv 0) (λ_ _=>rfl)) (pv 1) (λ_ _=>rfl)) (bX aH aE))) (cA (aR (d25.mono (by decide)) hr rfl (aB (pv 3) (aB (pv 0) (aB (pv 1) aE)))) aE))) rfl))) aE))) (aA (aS dE) aF) aF)) (aA (PS.nox (aS (cG (dR (K:=K) rfl hr) (aR (d22.mono (by decide)) hr rfl (aB (oZ (v := .ref c3) rfl e3 rfl) (cA (aR (d23.mono (by decide)) hr rfl (cK (bW (N':=["cut","price"]) (ix:=[none,none]) rfl rfl rfl (bE (K:=K) rfl (pv 1)) (λ_ _ _=>(bY (K:=K) rfl rfl (aO (aL (i:=0) (show(["cut","price"]:List Str).Nodup from by decide+kernel) rfl (Or.inl rfl)) (aO (aL (i:=1) (show(["cut","price"]:List Str).Nodup from by decide+kernel) rfl (Or.inl rfl)) bU)))) (λ_ _ _ => .nil) (λ_ _ _ _=>(bG rfl (pv 1) rfl))) aE)) aE))) (pv 2) (aW _)))) aF)))))
def aAD (K:ae) (p13:Sp) (p2:Sp) (p25:Sp):TS:=(aP (dP (tOr (iP (tB (tCB (vF K) (aC (aD 1) (aC (tC (.ty "tuple")) aQ))))) (bH (tOp (vA K) (tCB (iA K) (aC (aD 1) aQ)) (tC (.int 2))))) (aP (cS (tC (.bl false))) aK) aK) (aP (bO (aD 1) (jI K 2 (bN (aJ 2) (bN (aJ 3) jU)))) (aP (dP (tOr (iP (tB (aY p2 [] E0 (aC (aD 2) aQ)))) (tOr (bH (tOp (aKW K true) (aD 2) (aY p13 [] E0 (aC (aD 0) aQ)))) (iP (tB (aY p25 [] E0 (aC (aD 3) aQ)))))) (aP (cS (tC (.bl false))) aK) aK) (aP (cS (aKh (tOp yGt (tOp (aZ K) (aD 3) (tC (.int 0))) (tC (.int 0))) (sS (tOp (gE K) (tCB (iA K) (aC (aD 2) aQ)) (tC (.int 1))) (tOp yLt (tOp (aZ K) (aD 3) (tC (.int 0))) (tC (.int 0)))))) aK))))
def aCY : OkN P w K mg base "is_cut" (top 41) 4 ["many","thing","cut","price"] ["many","thing"] (aAD K p13 p2 p25):=okN λ_ _ _ _ _ _ _ nd hr=>(aA (cJ (PW.pt (eY (cF (bS (aM (cO (K:=K) rfl) rfl B.isi fM (aB (pv 1) (aB (eC (v := .ty "tuple") rfl B.tuple dL rfl) aE))))) (dH (aX (fE (K:=K) rfl hr) (aM (aV (K:=K) rfl) rfl B.len cD (aB (pv 1) aE)) aH (aW _))))) (aA (aS dE) aF) aF) (aA (fB (pv 1) (bY (K:=K) rfl rfl (aO (aL (i:=2) nd rfl (Or.inl rfl)) (aO (aL (i:=3) nd rfl (Or.inl rfl)) bU)))) (aA (cJ (PW.pt (eY (cF (bS (aR (d2.mono (by decide)) hr rfl (aB (pv 2) aE)))) (eY (aX (aBr (K:=K) rfl hr) (pv 2) (aR (d12.mono (by decide)) hr rfl (aB (pv 0) aE)) rfl) (dH (cF (bS (aR (d24.mono (by decide)) hr rfl (aB (pv 3) aE)))))))) (aA (aS dE) aF) aF) (aA (aS (aIF (cG oT (aU (aN (K:=K) rfl) (pv 3) aH (λ_ _=>rfl)) aH (aW _)) (kK (mI (cG (dR (K:=K) rfl hr) (aM (aV (K:=K) rfl) rfl B.len cD (aB (pv 2) aE)) aH (aW _)) (kK (cG fK (aU (aN (K:=K) rfl) (pv 3) aH (λ_ _=>rfl)) aH (aW _))))))) aF))))
def vE (K:ae) (p14:Sp) (p24:Sp):TS:=(aP (cS (aY p24 [] E0 (aC (cV [none,none,some 1,some 2] (fU K (aD 0)) (jI K 2 (bN (aJ 0) (bN (aJ 1) jU))) [(tB (aY p14 [] E0 (aC (aD 0) (aC (aD 2) (aC (aD 3) aQ)))))] λacc=>(cP (aD 1) acc)) aQ))) aK)
def aBf : OkN P w K mg base "between" (top 42) 4 ["some","i","j"] ["some","i","j"] (vE K p14 p24):=okN λ_ _ _ _ _ _ _ nd hr=>(aA (aS (aR (d23.mono (by decide)) hr rfl (cK (bW (N':=["cut","price","i","j"]) (ix:=[none,none,some 1,some 2]) rfl rfl rfl (bE (K:=K) rfl (pv 0)) (λ_ _ _=>(bY (K:=K) rfl rfl (aO (aL (i:=0) (show(["cut","price","i","j"]:List Str).Nodup from by decide+kernel) rfl (Or.inl rfl)) (aO (aL (i:=1) (show(["cut","price","i","j"]:List Str).Nodup from by decide+kernel) rfl (Or.inl rfl)) bU)))) (λ_ _ _=>(.cons (bS (aR (d13.mono (by decide)) hr rfl (aB (pv 0) (aB (pv 2) (aB (pv 3) aE))))) .nil)) (λ_ _ _ _=>(bG rfl (pv 1) rfl))) aE))) aF)
def kD (K:ae) : TS:=(aP (bO (tOp zF (tOp (dD K) (tOp (dD K) (tOp dQ (tOp zF (aD 0) (tC (.int 1000000007))) (tC (.int 69069))) (tOp dQ (aD 1) (tC (.int 40503)))) (tC (.int 977))) (tC (.int 2147483629))) (aJ 2)) (aP (bO (tOp zF (tOp (dD K) (tOp (dD K) (tOp dQ (aD 2) (aD 2)) (tOp dQ (aD 1) (tC (.int 7919)))) (tOp zF (aD 0) (tC (.int 65537)))) (tC (.int 2147483587))) (aJ 3)) (aP (bO (tOp zF (tOp (dD K) (tOp (dD K) (tOp dQ (aD 3) (aD 3)) (tOp dQ (aD 2) (tC (.int 31)))) (tC (.int 5))) (tC (.int 2147483563))) (aJ 4)) (aP (cS (tOp (dD K) (tOp dQ (tOp (dD K) (tOp dQ (aD 2) (tC (.int 2147483659))) (aD 3)) (tC (.int 2147483693))) (aD 4))) aK))))
def qR : OkN P w K mg base "_law_cmixed" (top 44) 1 ["cell","at","one","two","three"] ["cell","at"] (kD K):=okN λ_ _ _ _ _ _ _ nd hr=>(aA (bA (i:=2) nd rfl (.inl rfl) (bD jC (bD (bV (K:=K) rfl) (bD (bV (K:=K) rfl) (bD bZ (bD jC (pv 0) aH) aH) (bD bZ (pv 1) aH)) aH) aH)) (aA (bA (i:=3) nd rfl (.inl rfl) (bD jC (bD (bV (K:=K) rfl) (bD (bV (K:=K) rfl) (bD bZ (pv 2) (pv 2)) (bD bZ (pv 1) aH)) (bD jC (pv 0) aH)) aH)) (aA (bA (i:=4) nd rfl (.inl rfl) (bD jC (bD (bV (K:=K) rfl) (bD (bV (K:=K) rfl) (bD bZ (pv 3) (pv 3)) (bD bZ (pv 2) aH)) aH) aH)) (aA (aS (bD (bV (K:=K) rfl) (bD bZ (bD (bV (K:=K) rfl) (bD bZ (pv 2) aH) (pv 3)) aH) (pv 4))) aF))))
def mG (K:ae) : TS:=(aP (cS (aAP (aC (tCB (aBR K) (aC (tSl (aCu K) (aD 0) gP (lI (tC (.int 40)))) aQ)) (aC (tC (.int 0)) (aC (tC (.int 0)) aQ))))) aK)
def tK : OkN P w K mg base "_law_copen" (top 45) 1 ["script"] ["script"] (mG K):=okN λ_ _ _ _ _ _ _ nd hr=>(aA (aS (gJ (cA (dS (iX (K:=K) rfl rfl) rfl B.list kZ (bL (eU (qJ (K:=K) rfl) (pv 0) iQ (eZ aH)) aE)) (bX aH (bX aH aE))))) aF)
def mE (K:ae) (p28:Sp):TS:=(aP (dP (aFo (bH (tOp yLt (tOp (aZ K) (aD 0) (tC (.int 2))) (aD 1))) (bH (tOp yGt (tCB (iA K) (aC (tOp (aZ K) (aD 0) (tC (.int 0))) aQ)) (tC (.int 0))))) (aP (bO (tOp (aZ K) (aD 0) (tC (.int 1))) (aJ 2)) (aP (bO (tOp (aZ K) (tOp (aZ K) (aD 0) (tC (.int 0))) (tOp zF (aD 2) (tCB (iA K) (aC (tOp (aZ K) (aD 0) (tC (.int 0))) aQ)))) (aJ 3)) (aP (bO (tOp (dD K) (aD 2) (tC (.int 1))) (lJ (aD 0) (tC (.int 1)) eO)) (aP (bO (aD 3) (lJ (aD 0) (tC (.int 2)) eO)) (aP (dP (tOr (bH (tOp yLt (aD 3) (tOp aFA (tC (.int 10)) (tC (.int 18))))) (bH (tOp yGe (aD 2) (tCB (iA K) (aC (tOp (aZ K) (aD 0) (tC (.int 0))) aQ))))) (aP (bO (aY p28 [] E0 (aC (aD 3) (aC (aD 2) aQ))) (lJ (aD 0) (tC (.int 2)) eO)) aK) aK) aK))))) aK) (aP (bO (tOp zF (tOp (aZ K) (aD 0) (tC (.int 2))) (aD 1)) (aJ 4)) (aP (bO (tOp pE (tOp (aZ K) (aD 0) (tC (.int 2))) (aD 1)) (lJ (aD 0) (tC (.int 2)) eO)) (aP (cS (aD 4)) aK))))
def tQ : OkN P w K mg base "_law_cdraw" (top 46) 2 ["feed","many","at","cell","found"] ["feed","many"] (mE K p28):=okN λ_ _ _ _ _ _ _ nd hr=>(aA (cJ (PW.pt (sH (aX fK (aU (aN (K:=K) rfl) (pv 0) aH (λ_ _=>rfl)) (pv 1) (aW _)) (lX (aX oT (aM (aV (K:=K) rfl) rfl B.len cD (bL (aU (aN (K:=K) rfl) (pv 0) aH (λ_ _=>rfl)) aE)) aH (aW _))))) (aA (bA (i:=2) nd rfl (.inl rfl) (aU (aN (K:=K) rfl) (pv 0) aH (λ_ _=>rfl))) (aA (bA (i:=3) nd rfl (.inl rfl) (aU (aN (K:=K) rfl) (aU (aN (K:=K) rfl) (pv 0) aH (λ_ _=>rfl)) (bD jC (pv 2) (aM (aV (K:=K) rfl) rfl B.len cD (bL (aU (aN (K:=K) rfl) (pv 0) aH (λ_ _=>rfl)) aE))) (λ_ _=>rfl))) (aA (fB (bD (bV (K:=K) rfl) (pv 2) aH) (kE (pv 0) aH fH)) (aA (fB (pv 3) (kE (pv 0) aH fH)) (aA (cJ (PW.pt (eY (aX fK (pv 3) (bD aFq aH aH) (aW _)) (dH (aX aHN (pv 2) (aM (aV (K:=K) rfl) rfl B.len cD (bL (aU (aN (K:=K) rfl) (pv 0) aH (λ_ _=>rfl)) aE)) (aW _))))) (aA (fB (aR (d27.mono (by decide)) hr rfl (aB (pv 3) (aB (pv 2) aE))) (kE (pv 0) aH fH)) aF) aF) aF))))) aF) (aA (bA (i:=4) nd rfl (.inl rfl) (bD jC (aU (aN (K:=K) rfl) (pv 0) aH (λ_ _=>rfl)) (pv 1))) (aA (fB (bD fV (aU (aN (K:=K) rfl) (pv 0) aH (λ_ _=>rfl)) (pv 1)) (kE (pv 0) aH fH)) (aA (aS (pv 4)) aF))))
def sR (K:ae) : TS:=(aP (cS (sS (tCB (vF K) (aC (aD 0) (aC (tC (.ty "int")) aQ))) (aGz (tCB (vF K) (aC (aD 0) (aC (tC (.ty "bool")) aQ)))))) aK)
def qQ : OkN P w K mg base "_law_cwhole" (top 47) 1 ["thing"] ["thing"] (sR K):=okN λ_ _ _ _ _ _ _ nd hr=>(aA (aS (mI (aM (cO (K:=K) rfl) rfl B.isi fM (aB (pv 0) (aB (eC (v := .ty "int") rfl B.int aFw rfl) aE))) (kK (aEX (aM (cO (K:=K) rfl) rfl B.isi fM (aB (pv 0) (aB (eC (v := .ty "bool") rfl B.bool aBK rfl) aE))))))) aF)
def kB (K:ae) : TS:=(aP (bO (aAP aQ) (aJ 1)) (aP (kL (iC (aC (aD 0) aQ)) (aJ 2) (aP (bO (tOp (dD K) (aD 1) (cV [none,some 2] (aGf (aC (tOp (dD K) (aD 2) (tC (.int 1))) (aC (aD 0) aQ))) (aJ 0) [] λacc=>(cP (lS (aC (aD 1) (aC (aD 0) aQ))) acc))) (aJ 1)) aK)) (aP (cS (aD 1)) aK)))
def qF : OkN P w K mg base "_law_cpairs" (top 48) 1 ["many","found","i"] ["many"] (kB K):=okN λ_ _ _ _ _ _ _ nd hr=>(aA (bA (i:=1) nd rfl (.inl rfl) (gJ aE)) (aA (dG dh rfl (cH rfl B.range (aB (pv 0) aE)) (aL (i:=2) nd rfl (Or.inr rfl)) (aA (bA (i:=1) nd rfl (.inl rfl) (bD (bV (K:=K) rfl) (pv 1) (bW (N':=["j","i"]) (ix:=[none,some 2]) rfl rfl rfl (vN rfl B.range (cE (bD (bV (K:=K) rfl) (pv 2) aH) (aB (pv 0) aE))) (λ_ _ _=>(aL (i:=0) (show(["j","i"]:List Str).Nodup from by decide+kernel) rfl (Or.inl rfl))) (λ_ _ _ => .nil) (λ_ _ _ _=>(bG rfl (dF (aB (pv 1) (aB (pv 0) aE))) rfl))))) aF)) (aA (aS (pv 1)) aF)))
def jX (K:ae) : TS:=(aP (bO (cV [none] (fU K (aD 0)) (aJ 0) [] λacc=>(cP (tCB (aBR K) (aC (aD 0) aQ)) acc)) (aJ 1)) (aP (kL (iC (aC (tCB (iA K) (aC (aD 0) aQ)) aQ)) (aJ 2) (aP (kL (iC (aC (tCB (iA K) (aC (aD 0) aQ)) aQ)) (aJ 3) (aP (kL (iC (aC (tCB (iA K) (aC (aD 0) aQ)) aQ)) (aJ 4) (aP (bO (tOp (dD K) (tOp (aZ K) (tOp (aZ K) (aD 1) (aD 3)) (aD 2)) (tOp (aZ K) (tOp (aZ K) (aD 1) (aD 2)) (aD 4))) (aJ 5)) (aP (bO (tCB sU (aC (tOp (aZ K) (tOp (aZ K) (aD 1) (aD 3)) (aD 4)) (aC (aD 5) aQ))) (lJ (tOp (aZ K) (aD 1) (aD 3)) (aD 4) eO)) aK))) aK)) aK)) (aP (cS (tCB (pS K) (aC (cV [none] (fU K (aD 1)) (aJ 0) [] λacc=>(cP (tCB (pS K) (aC (aD 0) aQ)) acc)) aQ))) aK)))
def qG : OkN P w K mg base "_law_cshort" (top 49) 1 ["rows","found","k","i","j","step"] ["rows"] (jX K):=okN λ_ _ _ _ _ _ _ nd hr=>(aA (cX (i:=1) nd rfl (Or.inl rfl) (N':=["row"]) (ix:=[none]) rfl rfl rfl (bE (K:=K) rfl (pv 0)) (λ_ _ _=>(aL (i:=0) (show(["row"]:List Str).Nodup from by decide+kernel) rfl (Or.inl rfl))) (λ_ _ _ => .nil) (λ_ _ _ _=>(bG rfl (dS (iX (K:=K) rfl rfl) rfl B.list kZ (aB (pv 0) aE)) rfl))) (aA (dG dh rfl (cH rfl B.range (cA (aM (aV (K:=K) rfl) rfl B.len cD (aB (pv 0) aE)) aE)) (aL (i:=2) nd rfl (Or.inl rfl)) (aA (dG dh rfl (cH rfl B.range (cA (aM (aV (K:=K) rfl) rfl B.len cD (aB (pv 0) aE)) aE)) (aL (i:=3) nd rfl (Or.inl rfl)) (aA (dG dh rfl (cH rfl B.range (cA (aM (aV (K:=K) rfl) rfl B.len cD (aB (pv 0) aE)) aE)) (aL (i:=4) nd rfl (Or.inl rfl)) (aA (bA (i:=5) nd rfl (.inl rfl) (bD (bV (K:=K) rfl) (aU (aN (K:=K) rfl) (aU (aN (K:=K) rfl) (pv 1) (pv 3) (λ_ _=>rfl)) (pv 2) (λ_ _=>rfl)) (aU (aN (K:=K) rfl) (aU (aN (K:=K) rfl) (pv 1) (pv 2) (λ_ _=>rfl)) (pv 4) (λ_ _=>rfl)))) (aA (fB (aM (rK rfl) rfl B.min aFj (bL (aU (aN (K:=K) rfl) (aU (aN (K:=K) rfl) (pv 1) (pv 3) (λ_ _=>rfl)) (pv 4) (λ_ _=>rfl)) (aB (pv 5) aE))) (kE (aU (aN (K:=K) rfl) (pv 1) (pv 3) (λ_ _=>rfl)) (pv 4) fH)) aF))) aF)) aF)) (aA (aS (dS (gT (K:=K) rfl) rfl B.tuple dL (cK (bW (N':=["row"]) (ix:=[none]) rfl rfl rfl (bE (K:=K) rfl (pv 1)) (λ_ _ _=>(aL (i:=0) (show(["row"]:List Str).Nodup from by decide+kernel) rfl (Or.inl rfl))) (λ_ _ _ => .nil) (λ_ _ _ _=>(bG rfl (dS (gT (K:=K) rfl) rfl B.tuple dL (aB (pv 0) aE)) rfl))) aE))) aF)))
def mW (K:ae) (p29:Sp) (p30:Sp) (p31:Sp):TS:=(aP (bO (tOp (dD K) (aD 1) (aY p29 [] E0 (aC (aD 0) (aC (tOp (dD K) (tOp oX (aD 2) (aD 1)) (tC (.int 1))) aQ)))) (aJ 3)) (aP (bO (aY p29 [] E0 (aC (aD 0) (aC (tC (.int 8)) aQ))) (aJ 4)) (aP (bO (tOp (aZ K) (aAP (aC (tC (.int 2)) (aC (tC (.int 5)) (aC (tC (.int 30)) (aC (tC (.int 1000001)) aQ))))) (aY p29 [] E0 (aC (aD 0) (aC (tC (.int 4)) aQ)))) (aJ 5)) (aP (bO (cV [none,some 3] (iC (aC (aD 3) aQ)) (aJ 0) [] λacc=>(cP (tOp dQ (aAP (aC (tC (.int 0)) aQ)) (aD 1)) acc)) (aJ 6)) (aP (bO (cV [none,some 0,some 5] (iC (aC (aD 3) aQ)) (aJ 0) [] λacc=>(cP (lS (aC (aY p29 [] E0 (aC (aD 1) (aC (aD 2) aQ))) (aC (aY p29 [] E0 (aC (aD 1) (aC (aD 2) aQ))) aQ))) acc)) (aJ 7)) (aP (kL (fU K (aY p30 [] E0 (aC (aD 3) aQ))) (jI K 2 (bN (aJ 8) (bN (aJ 9) jU))) (aP (bO (aY p29 [] E0 (aC (aD 0) (aC (aD 5) aQ))) (aJ 10)) (aP (dP (bH (tOp (gE K) (aD 4) (tC (.int 1)))) (aP (bO (tOp dQ (tOp zF (aD 10) (tC (.int 2))) (tOp oX (aD 5) (tC (.int 1)))) (aJ 10)) aK) aK) (aP (dP (tOr (bH (tOp (gE K) (aD 4) (tC (.int 2)))) (bH (tOp (gE K) (aD 4) (tC (.int 3))))) (aP (bO (tCB aAr (aC (tOp oX (tOp (aZ K) (tOp (aZ K) (aD 7) (aD 8)) (tC (.int 0))) (tOp (aZ K) (tOp (aZ K) (aD 7) (aD 9)) (tC (.int 0)))) aQ)) (aJ 10)) aK) aK) (aP (dP (bH (tOp (gE K) (aD 4) (tC (.int 3)))) (aP (bO (tOp (dD K) (aD 10) (tCB aAr (aC (tOp oX (tOp (aZ K) (tOp (aZ K) (aD 7) (aD 8)) (tC (.int 1))) (tOp (aZ K) (tOp (aZ K) (aD 7) (aD 9)) (tC (.int 1)))) aQ))) (aJ 10)) aK) aK) (aP (dP (bH (tOp (gE K) (aD 4) (tC (.int 4)))) (aP (bO (tOp oX (aD 5) (tC (.int 1))) (aJ 10)) aK) aK) (aP (bO (tCB sU (aC (aD 10) (aC (tOp aFA (tC (.int 10)) (tC (.int 6))) aQ))) (lJ (tOp (aZ K) (aD 6) (aD 8)) (aD 9) eO)) (aP (bO (tOp (aZ K) (tOp (aZ K) (aD 6) (aD 8)) (aD 9)) (lJ (tOp (aZ K) (aD 6) (aD 9)) (aD 8) eO)) aK)))))))) (aP (dP (bH (tOp yGt (aD 4) (tC (.int 5)))) (aP (cS (aY p31 [] E0 (aC (aD 6) aQ))) aK) aK) (aP (cS (tCB (pS K) (aC (cV [none] (fU K (aD 6)) (aJ 0) [] λacc=>(cP (tCB (pS K) (aC (aD 0) aQ)) acc)) aQ))) aK))))))))
def tG : OkN P w K mg base "_law_ceven" (top 50) 3 ["feed","least","most","many","way","top","rows","spots","i","j","found"] ["feed","least","most"] (mW K p29 p30 p31):=okN λ_ _ _ _ _ _ _ nd hr=>(aA (bA (i:=3) nd rfl (.inr rfl) (bD (bV (K:=K) rfl) (pv 1) (aR (d28.mono (by decide)) hr rfl (aB (pv 0) (cE (bD (bV (K:=K) rfl) (bD oM (pv 2) (pv 1)) aH) aE))))) (aA (bA (i:=4) nd rfl (.inl rfl) (aR (d28.mono (by decide)) hr rfl (aB (pv 0) (bX aH aE)))) (aA (bA (i:=5) nd rfl (.inr rfl) (aU (aN (K:=K) rfl) (gJ (bX aH (bX aH (bX aH (bX aH aE))))) (aR (d28.mono (by decide)) hr rfl (aB (pv 0) (bX aH aE))) (λ_ _=>rfl))) (aA (cX (i:=6) nd rfl (Or.inl rfl) (N':=["k","many"]) (ix:=[none,some 3]) rfl rfl rfl (cH rfl B.range (aB (pv 3) aE)) (λ_ _ _=>(aL (i:=0) (show(["k","many"]:List Str).Nodup from by decide+kernel) rfl (Or.inl rfl))) (λ_ _ _ => .nil) (λ_ _ _ _=>(bG rfl (bD bZ (gJ (bX aH aE)) (pv 1)) rfl))) (aA (cX (i:=7) nd rfl (Or.inl rfl) (N':=["k","feed","top"]) (ix:=[none,some 0,some 5]) rfl rfl rfl (cH rfl B.range (aB (pv 3) aE)) (λ_ _ _=>(aL (i:=0) (show(["k","feed","top"]:List Str).Nodup from by decide+kernel) rfl (Or.inl rfl))) (λ_ _ _ => .nil) (λ_ _ _ _=>(bG rfl (dF (cA (aR (d28.mono (by decide)) hr rfl (aB (pv 1) (aB (pv 2) aE))) (cA (aR (d28.mono (by decide)) hr rfl (aB (pv 1) (aB (pv 2) aE))) aE))) rfl))) (aA (dG dh rfl (bE (K:=K) rfl (aR (d29.mono (by decide)) hr rfl (aB (pv 3) aE))) (bY (K:=K) rfl rfl (aO (aL (i:=8) nd rfl (Or.inl rfl)) (aO (aL (i:=9) nd rfl (Or.inl rfl)) bU))) (aA (bA (i:=10) nd rfl (.inl rfl) (aR (d28.mono (by decide)) hr rfl (aB (pv 0) (aB (pv 5) aE)))) (aA (cJ (aX (dR (K:=K) rfl hr) (pv 4) aH (aW _)) (aA (bA (i:=10) nd rfl (.inl rfl) (bD bZ (bD jC (pv 10) aH) (bD oM (pv 5) aH))) aF) aF) (aA (cJ (PW.pt (eY (aX (dR (K:=K) rfl hr) (pv 4) aH (aW _)) (dH (aX (dR (K:=K) rfl hr) (pv 4) aH (aW _))))) (aA (bA (i:=10) nd rfl (.inl rfl) (aM iK rfl B.abs wX (cE (bD oM (aU (aN (K:=K) rfl) (aU (aN (K:=K) rfl) (pv 7) (pv 8) (λ_ _=>rfl)) aH (λ_ _=>rfl)) (aU (aN (K:=K) rfl) (aU (aN (K:=K) rfl) (pv 7) (pv 9) (λ_ _=>rfl)) aH (λ_ _=>rfl))) aE))) aF) aF) (aA (cJ (aX (dR (K:=K) rfl hr) (pv 4) aH (aW _)) (aA (bA (i:=10) nd rfl (.inl rfl) (bD (bV (K:=K) rfl) (pv 10) (aM iK rfl B.abs wX (cE (bD oM (aU (aN (K:=K) rfl) (aU (aN (K:=K) rfl) (pv 7) (pv 8) (λ_ _=>rfl)) aH (λ_ _=>rfl)) (aU (aN (K:=K) rfl) (aU (aN (K:=K) rfl) (pv 7) (pv 9) (λ_ _=>rfl)) aH (λ_ _=>rfl))) aE)))) aF) aF) (aA (cJ (aX (dR (K:=K) rfl hr) (pv 4) aH (aW _)) (aA (bA (i:=10) nd rfl (.inl rfl) (bD oM (pv 5) aH)) aF) aF) (aA (fB (aM (rK rfl) rfl B.min aFj (aB (pv 10) (cE (bD aFq aH aH) aE))) (kE (aU (aN (K:=K) rfl) (pv 6) (pv 8) (λ_ _=>rfl)) (pv 9) fH)) (aA (fB (aU (aN (K:=K) rfl) (aU (aN (K:=K) rfl) (pv 6) (pv 8) (λ_ _=>rfl)) (pv 9) (λ_ _=>rfl)) (kE (aU (aN (K:=K) rfl) (pv 6) (pv 9) (λ_ _=>rfl)) (pv 8) fH)) aF)))))))) (aA (cJ (aX oT (pv 4) aH (aW _)) (aA (aS (aR (d30.mono (by decide)) hr rfl (aB (pv 6) aE))) aF) aF) (aA (aS (dS (gT (K:=K) rfl) rfl B.tuple dL (cK (bW (N':=["row"]) (ix:=[none]) rfl rfl rfl (bE (K:=K) rfl (pv 6)) (λ_ _ _=>(aL (i:=0) (show(["row"]:List Str).Nodup from by decide+kernel) rfl (Or.inl rfl))) (λ_ _ _ => .nil) (λ_ _ _ _=>(bG rfl (dS (gT (K:=K) rfl) rfl B.tuple dL (aB (pv 0) aE)) rfl))) aE))) aF))))))))
def pU (K:ae) : TS:=(aP (aJO 2 3 (aC (tCB aAr (aC (aD 0) aQ)) (aC (aD 1) aQ))) (aP (aAQ (bH (tOp yGt (aD 3) (tC (.int 0)))) (aP (aJO 2 3 (aC (aD 3) (aC (tOp zF (aD 2) (aD 3)) aQ))) aK)) (aP (cS (lS (aC (tOp pE (aD 0) (aD 2)) (aC (tOp pE (aD 1) (aD 2)) aQ)))) aK)))
def wV : OkN P w K mg base "_law_clow" (top 51) 1 ["top","bottom","one","other"] ["top","bottom"] (pU K):=okN λ_ _ _ _ _ _ _ nd hr=>(aA (aFu (i:=2) (j:=3) rfl nd rfl rfl (by decide) rfl rfl (cA (aM iK rfl B.abs wX (aB (pv 0) aE)) (aB (pv 1) aE)) rfl) (aA (tZ dh (aX oT (pv 3) aH (aW _)) (aA (aFu (i:=2) (j:=3) rfl nd rfl rfl (by decide) rfl rfl (aB (pv 3) (cE (bD jC (pv 2) (pv 3)) aE)) rfl) aF)) (aA (aS (dF (cE (bD fV (pv 0) (pv 2)) (cE (bD fV (pv 1) (pv 2)) aE)))) aF)))
def mJ (K:ae) (p32:Sp):TS:=(aP (bO (lS (aC (tC (.int 0)) (aC (tC (.int 1)) aQ))) (jI K 2 (bN (aJ 1) (bN (aJ 2) jU)))) (aP (kL (fU K (aD 0)) (aJ 3) (aP (bO (aY p32 [] E0 (aC (tOp (dD K) (tOp dQ (aD 1) (tOp (aZ K) (aD 3) (tC (.int 1)))) (tOp dQ (tOp (aZ K) (aD 3) (tC (.int 0))) (aD 2))) (aC (tOp dQ (aD 2) (tOp (aZ K) (aD 3) (tC (.int 1)))) aQ))) (jI K 2 (bN (aJ 1) (bN (aJ 2) jU)))) aK)) (aP (cS (lS (aC (aD 1) (aC (aD 2) aQ)))) aK)))
def uR : OkN P w K mg base "_law_cplus" (top 52) 2 ["some","top","bottom","one"] ["some"] (mJ K p32):=okN λ_ _ _ _ _ _ _ nd hr=>(aA (fB (dF (bX aH (bX aH aE))) (bY (K:=K) rfl rfl (aO (aL (i:=1) nd rfl (Or.inl rfl)) (aO (aL (i:=2) nd rfl (Or.inl rfl)) bU)))) (aA (dG dh rfl (bE (K:=K) rfl (pv 0)) (aL (i:=3) nd rfl (Or.inl rfl)) (aA (fB (aR (d31.mono (by decide)) hr rfl (cE (bD (bV (K:=K) rfl) (bD bZ (pv 1) (aU (aN (K:=K) rfl) (pv 3) aH (λ_ _=>rfl))) (bD bZ (aU (aN (K:=K) rfl) (pv 3) aH (λ_ _=>rfl)) (pv 2))) (cE (bD bZ (pv 2) (aU (aN (K:=K) rfl) (pv 3) aH (λ_ _=>rfl))) aE))) (bY (K:=K) rfl rfl (aO (aL (i:=1) nd rfl (Or.inl rfl)) (aO (aL (i:=2) nd rfl (Or.inl rfl)) bU)))) aF)) (aA (aS (dF (aB (pv 1) (aB (pv 2) aE)))) aF)))
def fP (K:ae) (p32:Sp) (p33:Sp):TS:=(aP (dP (tOr (iP (tB (tCB (vF K) (aC (aD 0) (aC (tC (.ty "tuple")) aQ))))) (bH (tOp (vA K) (tCB (iA K) (aC (aD 0) aQ)) (tC (.int 2))))) (aP (cS (tC (.bl false))) aK) aK) (aP (dP (tOr (iP (tB (aY p33 [] E0 (aC (tOp (aZ K) (aD 0) (tC (.int 0))) aQ)))) (tOr (iP (tB (aY p33 [] E0 (aC (tOp (aZ K) (aD 0) (tC (.int 1))) aQ)))) (bH (tOp yLt (tOp (aZ K) (aD 0) (tC (.int 1))) (tC (.int 1)))))) (aP (cS (tC (.bl false))) aK) aK) (aP (cS (tOp (gE K) (aY p32 [] E0 (aC (tOp (aZ K) (aD 0) (tC (.int 0))) (aC (tOp (aZ K) (aD 0) (tC (.int 1))) aQ))) (aD 0))) aK)))
def jA : OkN P w K mg base "_law_cis_fraction" (top 53) 2 ["thing"] ["thing"] (fP K p32 p33):=okN λ_ _ _ _ _ _ _ nd hr=>(aA (cJ (PW.pt (eY (cF (bS (aM (cO (K:=K) rfl) rfl B.isi fM (aB (pv 0) (aB (eC (v := .ty "tuple") rfl B.tuple dL rfl) aE))))) (dH (aX (fE (K:=K) rfl hr) (aM (aV (K:=K) rfl) rfl B.len cD (aB (pv 0) aE)) aH (aW _))))) (aA (aS dE) aF) aF) (aA (cJ (PW.pt (eY (cF (bS (aR (d32.mono (by decide)) hr rfl (bL (aU (aN (K:=K) rfl) (pv 0) aH (λ_ _=>rfl)) aE)))) (eY (cF (bS (aR (d32.mono (by decide)) hr rfl (bL (aU (aN (K:=K) rfl) (pv 0) aH (λ_ _=>rfl)) aE)))) (dH (aX fK (aU (aN (K:=K) rfl) (pv 0) aH (λ_ _=>rfl)) aH (aW _)))))) (aA (aS dE) aF) aF) (aA (aS (cG (dR (K:=K) rfl hr) (aR (d31.mono (by decide)) hr rfl (bL (aU (aN (K:=K) rfl) (pv 0) aH (λ_ _=>rfl)) (bL (aU (aN (K:=K) rfl) (pv 0) aH (λ_ _=>rfl)) aE))) (pv 0) (aW _))) aF)))
def jD (K:ae) (p33:Sp):TS:=(aP (dP (tOr (iP (tB (tCB (vF K) (aC (aD 1) (aC (tC (.ty "tuple")) aQ))))) (bH (tOp (vA K) (tCB (iA K) (aC (aD 1) aQ)) (tC (.int 2))))) (aP (cS (tC (.bl false))) aK) aK) (aP (dP (tOr (iP (tB (aY p33 [] E0 (aC (tOp (aZ K) (aD 1) (tC (.int 0))) aQ)))) (iP (tB (aY p33 [] E0 (aC (tOp (aZ K) (aD 1) (tC (.int 1))) aQ))))) (aP (cS (tC (.bl false))) aK) aK) (aP (cS (yU yLe yLt yLt (tC (.int 0)) (tOp (aZ K) (aD 1) (tC (.int 0))) (tOp (aZ K) (aD 1) (tC (.int 1))) (aD 0))) aK)))
def oQ : OkN P w K mg base "_law_cis_tie" (top 54) 2 ["many","thing"] ["many","thing"] (jD K p33):=okN λ_ _ _ _ _ _ _ nd hr=>(aA (cJ (PW.pt (eY (cF (bS (aM (cO (K:=K) rfl) rfl B.isi fM (aB (pv 1) (aB (eC (v := .ty "tuple") rfl B.tuple dL rfl) aE))))) (dH (aX (fE (K:=K) rfl hr) (aM (aV (K:=K) rfl) rfl B.len cD (aB (pv 1) aE)) aH (aW _))))) (aA (aS dE) aF) aF) (aA (cJ (PW.pt (eY (cF (bS (aR (d32.mono (by decide)) hr rfl (bL (aU (aN (K:=K) rfl) (pv 1) aH (λ_ _=>rfl)) aE)))) (dH (cF (bS (aR (d32.mono (by decide)) hr rfl (bL (aU (aN (K:=K) rfl) (pv 1) aH (λ_ _=>rfl)) aE))))))) (aA (aS dE) aF) aF) (aA (aS (vU aGj fK fK aH (aU (aN (K:=K) rfl) (pv 1) aH (λ_ _=>rfl)) (aU (aN (K:=K) rfl) (pv 1) aH (λ_ _=>rfl)) (pv 0))) aF)))
def mS (K:ae) : TS:=(aP (bO (aAP (aC (lS aQ) aQ)) (aJ 1)) (aP (kL (iC (aC (aD 0) aQ)) (aJ 2) (aP (bO (tOp (dD K) (aD 1) (cV [none,some 2] (fU K (aD 1)) (aJ 0) [] λacc=>(cP (tOp (dD K) (aD 0) (lS (aC (aD 1) aQ))) acc))) (aJ 1)) aK)) (aP (cS (cV [none,some 0] (fU K (aD 1)) (aJ 0) [(bH (zX yLt yLt (tC (.int 0)) (tCB (iA K) (aC (aD 0) aQ)) (aD 1)))] λacc=>(cP (aD 0) acc))) aK)))
def sN : OkN P w K mg base "_law_csets" (top 55) 1 ["many","found","place"] ["many"] (mS K):=okN λ_ _ _ _ _ _ _ nd hr=>(aA (bA (i:=1) nd rfl (.inl rfl) (gJ (gQ (dF aE) aE))) (aA (dG dh rfl (cH rfl B.range (aB (pv 0) aE)) (aL (i:=2) nd rfl (Or.inr rfl)) (aA (bA (i:=1) nd rfl (.inl rfl) (bD (bV (K:=K) rfl) (pv 1) (bW (N':=["some","place"]) (ix:=[none,some 2]) rfl rfl rfl (bE (K:=K) rfl (pv 1)) (λ_ _ _=>(aL (i:=0) (show(["some","place"]:List Str).Nodup from by decide+kernel) rfl (Or.inl rfl))) (λ_ _ _ => .nil) (λ_ _ _ _=>(bG rfl (bD (bV (K:=K) rfl) (pv 0) (dF (aB (pv 1) aE))) rfl))))) aF)) (aA (aS (bW (N':=["some","many"]) (ix:=[none,some 0]) rfl rfl rfl (bE (K:=K) rfl (pv 1)) (λ_ _ _=>(aL (i:=0) (show(["some","many"]:List Str).Nodup from by decide+kernel) rfl (Or.inl rfl))) (λ_ _ _=>(.cons (uF fK fK aH (aM (aV (K:=K) rfl) rfl B.len cD (aB (pv 0) aE)) (pv 1)) .nil)) (λ_ _ _ _=>(bG rfl (pv 0) rfl)))) aF)))
def wL (K:ae) : TS:=(aP (cS (tOp (vA K) (tOp (rIn K false) (aD 1) (aD 0)) (tOp (rIn K false) (aD 2) (aD 0)))) aK)
def uD : OkN P w K mg base "_law_cover" (top 56) 1 ["some","i","j"] ["some","i","j"] (wL K):=okN λ_ _ _ _ _ _ _ nd hr=>(aA (aS (cG (fE (K:=K) rfl hr) (cG (aAh (K:=K) rfl) (pv 1) (pv 0) rfl) (cG (aAh (K:=K) rfl) (pv 2) (pv 0) rfl) (aW _))) aF)
def fY (K:ae) (p34:Sp) (p35:Sp) (p36:Sp) (p37:Sp) (p38:Sp):TS:=(aP (bO (tCB (iA K) (aC (aD 0) aQ)) (aJ 3)) (aP (dP (iP (tB (tCB (vF K) (aC (aD 1) (aC (tC (.ty "list")) aQ))))) (aP (cS (tC (.bl false))) aK) aK) (aP (kL (fU K (aD 1)) (aJ 4) (aP (dP (tOr (iP (tB (tCB (vF K) (aC (aD 4) (aC (tC (.ty "tuple")) aQ))))) (bH (tOp (vA K) (tCB (iA K) (aC (aD 4) aQ)) (tC (.int 3))))) (aP (cS (tC (.bl false))) aK) aK) (aP (dP (tOr (iP (tB (aY p35 [] E0 (aC (aD 3) (aC (tSl (aCu K) (aD 4) gP (lI (tC (.int 2)))) aQ))))) (iP (tB (aY p34 [] E0 (aC (tOp (aZ K) (aD 4) (tC (.int 2))) aQ))))) (aP (cS (tC (.bl false))) aK) aK) (aP (dP (bH (tOp yLt (tOp (aZ K) (tOp (aZ K) (aD 4) (tC (.int 2))) (tC (.int 0))) (tC (.int 1)))) (aP (cS (tC (.bl false))) aK) aK) aK)))) (aP (bO (cV [none] (fU K (aD 1)) (aJ 0) [] λacc=>(cP (tSl (aCu K) (aD 0) gP (lI (tC (.int 2)))) acc)) (aJ 5)) (aP (dP (bH (tOp (vA K) (aD 5) (tCB (aGG K) (aC (aD 5) aQ)))) (aP (cS (tC (.bl false))) aK) aK) (aP (kL (fU K (aY p38 [] E0 (aC (aD 3) aQ))) (aJ 6) (aP (bO (aY p36 [] E0 (aC (aD 1) (aC (aD 6) aQ))) (aJ 7)) (aP (dP (tOr (bH (tOp yLt (tOp (aZ K) (aD 7) (tC (.int 0))) (tOp dQ (tC (.int 2)) (tOp (aZ K) (aD 7) (tC (.int 1)))))) (aFo (bH (tOp (gE K) (tCB (iA K) (aC (aD 6) aQ)) (tC (.int 1)))) (bH (tOp (vA K) (aD 7) (lS (aC (tC (.int 2)) (aC (tC (.int 1)) aQ))))))) (aP (cS (tC (.bl false))) aK) aK) aK))) (aP (bO (aAP aQ) (aJ 8)) (aP (kL (fU K (aD 1)) (jI K 3 (bN (aJ 9) (bN (aJ 10) (bN (aJ 11) jU)))) (aP (nG (tBM K "list" lH (aD 8) (aC (lS (aC (tOp dQ (tOp (aZ K) (aD 11) (tC (.int 0))) (tOp (aZ K) (tOp (aZ K) (aD 0) (aD 9)) (aD 10))) (aC (tOp (aZ K) (aD 11) (tC (.int 1))) aQ))) aQ))) aK)) (aP (cS (tOp (gE K) (aY p37 [] E0 (aC (aD 8) aQ)) (aD 2))) aK)))))))))
def jR : OkN P w K mg base "_law_care_shares" (top 57) 4 ["table","some","worth","many","thing","pairs","side","over","whole","i","j","part"] ["table","some","worth"] (fY K p34 p35 p36 p37 p38):=okN λ_ _ _ _ _ _ _ nd hr=>(aA (bA (i:=3) nd rfl (.inl rfl) (aM (aV (K:=K) rfl) rfl B.len cD (aB (pv 0) aE))) (aA (cJ (cF (bS (aM (cO (K:=K) rfl) rfl B.isi fM (aB (pv 1) (aB (eC (v := .ty "list") rfl B.list kZ rfl) aE))))) (aA (aS dE) aF) aF) (aA (dG dh rfl (bE (K:=K) rfl (pv 1)) (aL (i:=4) nd rfl (Or.inl rfl)) (aA (cJ (PW.pt (eY (cF (bS (aM (cO (K:=K) rfl) rfl B.isi fM (aB (pv 4) (aB (eC (v := .ty "tuple") rfl B.tuple dL rfl) aE))))) (dH (aX (fE (K:=K) rfl hr) (aM (aV (K:=K) rfl) rfl B.len cD (aB (pv 4) aE)) aH (aW _))))) (aA (aS dE) aF) aF) (aA (cJ (PW.pt (eY (cF (bS (aR (d34.mono (by decide)) hr rfl (aB (pv 3) (bL (eU (qJ (K:=K) rfl) (pv 4) iQ (eZ aH)) aE))))) (dH (cF (bS (aR (d33.mono (by decide)) hr rfl (bL (aU (aN (K:=K) rfl) (pv 4) aH (λ_ _=>rfl)) aE))))))) (aA (aS dE) aF) aF) (aA (cJ (aX fK (aU (aN (K:=K) rfl) (aU (aN (K:=K) rfl) (pv 4) aH (λ_ _=>rfl)) aH (λ_ _=>rfl)) aH (aW _)) (aA (aS dE) aF) aF) aF)))) (aA (cX (i:=5) nd rfl (Or.inl rfl) (N':=["thing"]) (ix:=[none]) rfl rfl rfl (bE (K:=K) rfl (pv 1)) (λ_ _ _=>(aL (i:=0) (show(["thing"]:List Str).Nodup from by decide+kernel) rfl (Or.inl rfl))) (λ_ _ _ => .nil) (λ_ _ _ _=>(bG rfl (eU (qJ (K:=K) rfl) (pv 0) iQ (eZ aH)) rfl))) (aA (cJ (aX (fE (K:=K) rfl hr) (pv 5) (aBX (K:=K) rfl rfl hr rfl B.sorted kA rfl B.set aBP (aB (pv 5) aE)) (aW _)) (aA (aS dE) aF) aF) (aA (dG dh rfl (bE (K:=K) rfl (aR (d37.mono (by decide)) hr rfl (aB (pv 3) aE))) (aL (i:=6) nd rfl (Or.inl rfl)) (aA (bA (i:=7) nd rfl (.inl rfl) (aR (d35.mono (by decide)) hr rfl (aB (pv 1) (aB (pv 6) aE)))) (aA (cJ (PW.pt (eY (aX fK (aU (aN (K:=K) rfl) (pv 7) aH (λ_ _=>rfl)) (bD bZ aH (aU (aN (K:=K) rfl) (pv 7) aH (λ_ _=>rfl))) (aW _)) (dH (PW.pt (sH (aX (dR (K:=K) rfl hr) (aM (aV (K:=K) rfl) rfl B.len cD (aB (pv 6) aE)) aH (aW _)) (lX (aX (fE (K:=K) rfl hr) (pv 7) (dF (bX aH (bX aH aE))) (aW _)))))))) (aA (aS dE) aF) aF) aF))) (aA (bA (i:=8) nd rfl (.inl rfl) (gJ aE)) (aA (dG dh rfl (bE (K:=K) rfl (pv 1)) (bY (K:=K) rfl rfl (aO (aL (i:=9) nd rfl (Or.inl rfl)) (aO (aL (i:=10) nd rfl (Or.inl rfl)) (aO (aL (i:=11) nd rfl (Or.inl rfl)) bU)))) (aA (gD (xA (K:=K) rfl jj j4 j5 gG (pv 8) (gQ (dF (cE (bD bZ (aU (aN (K:=K) rfl) (pv 11) aH (λ_ _=>rfl)) (aU (aN (K:=K) rfl) (aU (aN (K:=K) rfl) (pv 0) (pv 9) (λ_ _=>rfl)) (pv 10) (λ_ _=>rfl))) (bL (aU (aN (K:=K) rfl) (pv 11) aH (λ_ _=>rfl)) aE))) aE))) aF)) (aA (aS (cG (dR (K:=K) rfl hr) (aR (d36.mono (by decide)) hr rfl (aB (pv 8) aE)) (pv 2) (aW _))) aF)))))))))
def iI (K:ae) (p33:Sp):TS:=(aP (dP (tOr (iP (tB (tCB (vF K) (aC (aD 1) (aC (tC (.ty "tuple")) aQ))))) (iP (bH (zX yLt yLt (tC (.int 0)) (tCB (iA K) (aC (aD 1) aQ)) (aD 0))))) (aP (cS (tC (.bl false))) aK) aK) (aP (kL (fU K (aD 1)) (aJ 2) (aP (dP (tOr (iP (tB (aY p33 [] E0 (aC (aD 2) aQ)))) (iP (bH (zX yLe yLt (tC (.int 0)) (aD 2) (aD 0))))) (aP (cS (tC (.bl false))) aK) aK) aK)) (aP (cS (tOp (gE K) (tCB (aBR K) (aC (aD 1) aQ)) (tCB (rSS K) (aC (aD 1) aQ)))) aK)))
def nK : OkN P w K mg base "_law_cis_side" (top 58) 2 ["many","some","place"] ["many","some"] (iI K p33):=okN λ_ _ _ _ _ _ _ nd hr=>(aA (cJ (PW.pt (eY (cF (bS (aM (cO (K:=K) rfl) rfl B.isi fM (aB (pv 1) (aB (eC (v := .ty "tuple") rfl B.tuple dL rfl) aE))))) (dH (cF (uF fK fK aH (aM (aV (K:=K) rfl) rfl B.len cD (aB (pv 1) aE)) (pv 0)))))) (aA (aS dE) aF) aF) (aA (dG dh rfl (bE (K:=K) rfl (pv 1)) (aL (i:=2) nd rfl (Or.inl rfl)) (aA (cJ (PW.pt (eY (cF (bS (aR (d32.mono (by decide)) hr rfl (aB (pv 2) aE)))) (dH (cF (uF aGj fK aH (pv 2) (pv 0)))))) (aA (aS dE) aF) aF) aF)) (aA (aS (cG (dR (K:=K) rfl hr) (dS (iX (K:=K) rfl rfl) rfl B.list kZ (aB (pv 1) aE)) (aKc (K:=K) rfl rfl rfl B.sorted kA rfl B.set aBP (aB (pv 1) aE)) (aW _))) aF)))
def iB (K:ae) (p34:Sp) (p39:Sp) (p40:Sp) (p30:Sp) (p37:Sp):TS:=(aP (bO (tCB (iA K) (aC (aD 0) aQ)) (aJ 3)) (aP (dP (iP (tB (tCB (vF K) (aC (aD 1) (aC (tC (.ty "list")) aQ))))) (aP (cS (tC (.bl false))) aK) aK) (aP (kL (fU K (aD 1)) (aJ 4) (aP (dP (tOr (iP (tB (tCB (vF K) (aC (aD 4) (aC (tC (.ty "tuple")) aQ))))) (bH (tOp (vA K) (tCB (iA K) (aC (aD 4) aQ)) (tC (.int 2))))) (aP (cS (tC (.bl false))) aK) aK) (aP (dP (tOr (iP (tB (aY p39 [] E0 (aC (aD 3) (aC (tOp (aZ K) (aD 4) (tC (.int 0))) aQ))))) (iP (tB (aY p34 [] E0 (aC (tOp (aZ K) (aD 4) (tC (.int 1))) aQ))))) (aP (cS (tC (.bl false))) aK) aK) (aP (dP (tOr (bH (tOp (gE K) (tOp (aZ K) (tOp (aZ K) (aD 4) (tC (.int 1))) (tC (.int 0))) (tC (.int 0)))) (aFo (bH (tOp yGt (tCB (iA K) (aC (tOp (aZ K) (aD 4) (tC (.int 0))) aQ)) (tC (.int 1)))) (bH (tOp yLt (tOp (aZ K) (tOp (aZ K) (aD 4) (tC (.int 1))) (tC (.int 0))) (tC (.int 0)))))) (aP (cS (tC (.bl false))) aK) aK) aK)))) (aP (bO (cV [none] (fU K (aD 1)) (aJ 0) [] λacc=>(cP (tOp (aZ K) (aD 0) (tC (.int 0))) acc)) (aJ 5)) (aP (dP (bH (tOp (vA K) (aD 5) (tCB (aGG K) (aC (aD 5) aQ)))) (aP (cS (tC (.bl false))) aK) aK) (aP (kL (fU K (aY p30 [] E0 (aC (aD 3) aQ))) (jI K 2 (bN (aJ 6) (bN (aJ 7) jU))) (aP (bO (cV [none,some 6,some 7] (fU K (aD 1)) (aJ 0) [(tB (aY p40 [] E0 (aC (tOp (aZ K) (aD 0) (tC (.int 0))) (aC (aD 1) (aC (aD 2) aQ)))))] λacc=>(cP (aD 0) acc)) (aJ 8)) (aP (bO (aY p37 [] E0 (aC (cV [none] (fU K (aD 8)) (aJ 0) [] λacc=>(cP (tOp (aZ K) (aD 0) (tC (.int 1))) acc)) aQ)) (aJ 9)) (aP (dP (bH (tOp yGt (tOp (aZ K) (aD 9) (tC (.int 0))) (tOp dQ (tOp (aZ K) (tOp (aZ K) (aD 0) (aD 6)) (aD 7)) (tOp (aZ K) (aD 9) (tC (.int 1)))))) (aP (cS (tC (.bl false))) aK) aK) aK)))) (aP (bO (cV [none,none] (fU K (aD 1)) (jI K 2 (bN (aJ 0) (bN (aJ 1) jU))) [] λacc=>(cP (aD 1) acc)) (aJ 10)) (aP (cS (tOp (gE K) (aY p37 [] E0 (aC (tOp (dD K) (aD 10) (aD 10)) aQ)) (aD 2))) aK))))))))
def lU : OkN P w K mg base "_law_care_cuts" (top 59) 3 ["table","some","worth","many","thing","sides","i","j","over","paid","whole"] ["table","some","worth"] (iB K p34 p39 p40 p30 p37):=okN λ_ _ _ _ _ _ _ nd hr=>(aA (bA (i:=3) nd rfl (.inl rfl) (aM (aV (K:=K) rfl) rfl B.len cD (aB (pv 0) aE))) (aA (cJ (cF (bS (aM (cO (K:=K) rfl) rfl B.isi fM (aB (pv 1) (aB (eC (v := .ty "list") rfl B.list kZ rfl) aE))))) (aA (aS dE) aF) aF) (aA (dG dh rfl (bE (K:=K) rfl (pv 1)) (aL (i:=4) nd rfl (Or.inl rfl)) (aA (cJ (PW.pt (eY (cF (bS (aM (cO (K:=K) rfl) rfl B.isi fM (aB (pv 4) (aB (eC (v := .ty "tuple") rfl B.tuple dL rfl) aE))))) (dH (aX (fE (K:=K) rfl hr) (aM (aV (K:=K) rfl) rfl B.len cD (aB (pv 4) aE)) aH (aW _))))) (aA (aS dE) aF) aF) (aA (cJ (PW.pt (eY (cF (bS (aR (d38.mono (by decide)) hr rfl (aB (pv 3) (bL (aU (aN (K:=K) rfl) (pv 4) aH (λ_ _=>rfl)) aE))))) (dH (cF (bS (aR (d33.mono (by decide)) hr rfl (bL (aU (aN (K:=K) rfl) (pv 4) aH (λ_ _=>rfl)) aE))))))) (aA (aS dE) aF) aF) (aA (cJ (PW.pt (eY (aX (dR (K:=K) rfl hr) (aU (aN (K:=K) rfl) (aU (aN (K:=K) rfl) (pv 4) aH (λ_ _=>rfl)) aH (λ_ _=>rfl)) aH (aW _)) (dH (PW.pt (sH (aX oT (aM (aV (K:=K) rfl) rfl B.len cD (bL (aU (aN (K:=K) rfl) (pv 4) aH (λ_ _=>rfl)) aE)) aH (aW _)) (lX (aX fK (aU (aN (K:=K) rfl) (aU (aN (K:=K) rfl) (pv 4) aH (λ_ _=>rfl)) aH (λ_ _=>rfl)) aH (aW _)))))))) (aA (aS dE) aF) aF) aF)))) (aA (cX (i:=5) nd rfl (Or.inl rfl) (N':=["thing"]) (ix:=[none]) rfl rfl rfl (bE (K:=K) rfl (pv 1)) (λ_ _ _=>(aL (i:=0) (show(["thing"]:List Str).Nodup from by decide+kernel) rfl (Or.inl rfl))) (λ_ _ _ => .nil) (λ_ _ _ _=>(bG rfl (aU (aN (K:=K) rfl) (pv 0) aH (λ_ _=>rfl)) rfl))) (aA (cJ (aX (fE (K:=K) rfl hr) (pv 5) (aBX (K:=K) rfl rfl hr rfl B.sorted kA rfl B.set aBP (aB (pv 5) aE)) (aW _)) (aA (aS dE) aF) aF) (aA (dG dh rfl (bE (K:=K) rfl (aR (d29.mono (by decide)) hr rfl (aB (pv 3) aE))) (bY (K:=K) rfl rfl (aO (aL (i:=6) nd rfl (Or.inr rfl)) (aO (aL (i:=7) nd rfl (Or.inr rfl)) bU))) (aA (cX (i:=8) nd rfl (Or.inl rfl) (N':=["one","i","j"]) (ix:=[none,some 6,some 7]) rfl rfl rfl (bE (K:=K) rfl (pv 1)) (λ_ _ _=>(aL (i:=0) (show(["one","i","j"]:List Str).Nodup from by decide+kernel) rfl (Or.inl rfl))) (λ_ _ _=>(.cons (bS (aR (d39.mono (by decide)) hr rfl (bL (aU (aN (K:=K) rfl) (pv 0) aH (λ_ _=>rfl)) (aB (pv 1) (aB (pv 2) aE))))) .nil)) (λ_ _ _ _=>(bG rfl (pv 0) rfl))) (aA (bA (i:=9) nd rfl (.inl rfl) (aR (d36.mono (by decide)) hr rfl (cK (bW (N':=["one"]) (ix:=[none]) rfl rfl rfl (bE (K:=K) rfl (pv 8)) (λ_ _ _=>(aL (i:=0) (show(["one"]:List Str).Nodup from by decide+kernel) rfl (Or.inl rfl))) (λ_ _ _ => .nil) (λ_ _ _ _=>(bG rfl (aU (aN (K:=K) rfl) (pv 0) aH (λ_ _=>rfl)) rfl))) aE))) (aA (cJ (aX oT (aU (aN (K:=K) rfl) (pv 9) aH (λ_ _=>rfl)) (bD bZ (aU (aN (K:=K) rfl) (aU (aN (K:=K) rfl) (pv 0) (pv 6) (λ_ _=>rfl)) (pv 7) (λ_ _=>rfl)) (aU (aN (K:=K) rfl) (pv 9) aH (λ_ _=>rfl))) (aW _)) (aA (aS dE) aF) aF) aF)))) (aA (cX (i:=10) nd rfl (Or.inl rfl) (N':=["side","part"]) (ix:=[none,none]) rfl rfl rfl (bE (K:=K) rfl (pv 1)) (λ_ _ _=>(bY (K:=K) rfl rfl (aO (aL (i:=0) (show(["side","part"]:List Str).Nodup from by decide+kernel) rfl (Or.inl rfl)) (aO (aL (i:=1) (show(["side","part"]:List Str).Nodup from by decide+kernel) rfl (Or.inl rfl)) bU)))) (λ_ _ _ => .nil) (λ_ _ _ _=>(bG rfl (pv 1) rfl))) (aA (aS (cG (dR (K:=K) rfl hr) (aR (d36.mono (by decide)) hr rfl (cE (bD (bV (K:=K) rfl) (pv 10) (pv 10)) aE)) (pv 2) (aW _))) aF))))))))
def hZ (K:ae) (p40:Sp) (p37:Sp):TS:=(aP (bO (aAP aQ) (aJ 2)) (aP (kL (fU K (aD 0)) (jI K 3 (bN (aJ 3) (bN (aJ 4) (bN (aJ 5) jU)))) (aP (dP (tB (aY p40 [] E0 (aC (aD 1) (aC (aD 3) (aC (aD 4) aQ))))) (aP (nG (tBM K "list" lH (aD 2) (aC (aD 5) aQ))) aK) aK) aK)) (aP (cS (aY p37 [] E0 (aC (aD 2) aQ))) aK)))
def lY : OkN P w K mg base "_law_cover_sum" (top 60) 3 ["some","side","found","i","j","part"] ["some","side"] (hZ K p40 p37):=okN λ_ _ _ _ _ _ _ nd hr=>(aA (bA (i:=2) nd rfl (.inl rfl) (gJ aE)) (aA (dG dh rfl (bE (K:=K) rfl (pv 0)) (bY (K:=K) rfl rfl (aO (aL (i:=3) nd rfl (Or.inl rfl)) (aO (aL (i:=4) nd rfl (Or.inl rfl)) (aO (aL (i:=5) nd rfl (Or.inl rfl)) bU)))) (aA (cJ (bS (aR (d39.mono (by decide)) hr rfl (aB (pv 1) (aB (pv 3) (aB (pv 4) aE))))) (aA (gD (xA (K:=K) rfl jj j4 j5 gG (pv 2) (aB (pv 5) aE))) aF) aF) aF)) (aA (aS (aR (d36.mono (by decide)) hr rfl (aB (pv 2) aE))) aF)))
def aIh (K:ae) (p41:Sp) (p42:Sp) (p43:Sp) (p34:Sp) (p44:Sp) (p45:Sp) (p46:Sp) (p47:Sp):TS:=(aP (bO (aY p44 [] E0 (aC (aD 0) aQ)) (aJ 1)) (aP (kL (iC (aC (tC (.int 2)) aQ)) (aJ 2) (aP (bO (aY p43 [] E0 (aC (aD 1) (aC (tC (.int 3)) (aC (tC (.int 6)) aQ)))) (aJ 3)) (aP (kL (iC (aC (tC (.int 2)) aQ)) (aJ 4) (aP (bO (aY p47 [] E0 (aC (aD 3) aQ)) (aJ 5)) (aP (dP (tOr (iP (tB (tCB (vF K) (aC (aD 5) (aC (tC (.ty "tuple")) aQ))))) (bH (tOp (vA K) (tCB (iA K) (aC (aD 5) aQ)) (tC (.int 3))))) (aP (cS (tC (.bl false))) aK) aK) (aP (bO (aD 5) (jI K 3 (bN (aJ 6) (bN (aJ 7) (bN (aJ 8) jU))))) (aP (dP (iP (tB (aY p34 [] E0 (aC (aD 6) aQ)))) (aP (cS (tC (.bl false))) aK) aK) (aP (dP (iP (tB (aY p42 [] E0 (aC (aD 3) (aC (aD 7) (aC (aD 6) aQ)))))) (aP (cS (tC (.bl false))) aK) aK) (aP (dP (iP (tB (aY p41 [] E0 (aC (aD 3) (aC (aD 8) (aC (aD 6) aQ)))))) (aP (cS (tC (.bl false))) aK) aK) (aP (dP (bH (tOp pF (aY p46 [] E0 (aC (aD 3) (aC (aD 7) (aC (aD 6) aQ)))) (tC (.bl true)))) (aP (cS (tC (.bl false))) aK) aK) (aP (dP (bH (tOp pF (aY p45 [] E0 (aC (aD 3) (aC (aD 8) (aC (aD 6) aQ)))) (tC (.bl true)))) (aP (cS (tC (.bl false))) aK) aK) (aP (bO (tCB (aBR K) (aC (aD 8) aQ)) (aJ 9)) (aP (nG (aJW K "list" aFp (aD 7))) (aP (dP (bH (tOp (vA K) (aD 8) (aD 9))) (aP (cS (tC (.bl false))) aK) aK) (aP (nG (tBM K "list" lH (aD 8) (aC (tC (.int 0)) aQ))) aK))))))))))))) aK))) (aP (cS (tC (.bl true))) aK)))
def aHs : OkN P w K mg base "law" (top 61) 6 ["script","feed","turn_v","table","again","told","worth","some","cuts","kept"] ["script"] (aIh K p41 p42 p43 p34 p44 p45 p46 p47):=okN λ_ _ _ _ _ _ _ nd hr=>(aA (bA (i:=1) nd rfl (.inl rfl) (aR (d43.mono (by decide)) hr rfl (aB (pv 0) aE))) (aA (dG dh rfl (cH rfl B.range (bX aH aE)) (aL (i:=2) nd rfl (Or.inl rfl)) (aA (bA (i:=3) nd rfl (.inl rfl) (aR (d42.mono (by decide)) hr rfl (aB (pv 1) (bX aH (bX aH aE))))) (aA (dG dh rfl (cH rfl B.range (bX aH aE)) (aL (i:=4) nd rfl (Or.inl rfl)) (aA (bA (i:=5) nd rfl (.inl rfl) (lM (y3.mono (by decide)) hr rfl zE (aB (pv 3) aE))) (aA (cJ (PW.pt (eY (cF (bS (aM (cO (K:=K) rfl) rfl B.isi fM (aB (pv 5) (aB (eC (v := .ty "tuple") rfl B.tuple dL rfl) aE))))) (dH (aX (fE (K:=K) rfl hr) (aM (aV (K:=K) rfl) rfl B.len cD (aB (pv 5) aE)) aH (aW _))))) (aA (aS dE) aF) aF) (aA (fB (pv 5) (bY (K:=K) rfl rfl (aO (aL (i:=6) nd rfl (Or.inl rfl)) (aO (aL (i:=7) nd rfl (Or.inl rfl)) (aO (aL (i:=8) nd rfl (Or.inl rfl)) bU))))) (aA (cJ (cF (bS (aR (d33.mono (by decide)) hr rfl (aB (pv 6) aE)))) (aA (aS dE) aF) aF) (aA (cJ (cF (bS (aR (d41.mono (by decide)) hr rfl (aB (pv 3) (aB (pv 7) (aB (pv 6) aE)))))) (aA (aS dE) aF) aF) (aA (cJ (cF (bS (aR (d40.mono (by decide)) hr rfl (aB (pv 3) (aB (pv 8) (aB (pv 6) aE)))))) (aA (aS dE) aF) aF) (aA (cJ (aX pB (lM (y2.mono (by decide)) hr rfl zE (aB (pv 3) (aB (pv 7) (aB (pv 6) aE)))) dE (aW _)) (aA (aS dE) aF) aF) (aA (cJ (aX pB (lM (y1.mono (by decide)) hr rfl zE (aB (pv 3) (aB (pv 8) (aB (pv 6) aE)))) dE (aW _)) (aA (aS dE) aF) aF) (aA (bA (i:=9) nd rfl (.inl rfl) (dS (iX (K:=K) rfl rfl) rfl B.list kZ (aB (pv 8) aE))) (aA (gD (aGc (K:=K) rfl jj PySem.F.slot_list_clear PySem.F.type_list_clear aDJ (pv 7))) (aA (cJ (aX (fE (K:=K) rfl hr) (pv 8) (pv 9) (aW _)) (aA (aS dE) aF) aF) (aA (gD (xA (K:=K) rfl jj j4 j5 gG (pv 8) (bX aH aE))) aF))))))))))))) aF))) (aA (aS dE) aF)))
end
def gd (i j:Int):Int:=((i.gcd j:Nat):Int)
theorem iN {i j:Int}(h:0<j):0<gd i j:=by
 unfold gd
 have:0<i.gcd j:=Int.gcd_pos_of_ne_zero_right i (by omega)
 omega
theorem kH {i j:Int}(h:0<j):i=gd i j*(i / gd i j)/\j=gd i j*(j / gd i j)/\0<j / gd i j/\(i / gd i j).gcd (j / gd i j)=1:=by
 have g0:=iN (i:=i) h
 have d1:gd i j ∣ i:=Int.gcd_dvd_left i j
 have d2:gd i j ∣ j:=Int.gcd_dvd_right i j
 have e2:j=gd i j*(j / gd i j):=(yy d2).symm
 refine⟨(yy d1).symm,e2,?_,?_⟩
 ·apply cz
  intro hn
  have:=Int.mul_nonpos_of_nonneg_of_nonpos (show 0<=gd i j by omega) (show j / gd i j<=0 by omega)
  omega
 ·exact Int.gcd_ediv_gcd_ediv_gcd (by unfold gd at g0;omega)
theorem yB {a b d:Int}(h:b ∣ a*d)(g:a.gcd b=1):b ∣ d:=by
 have h1:b.natAbs ∣ a.natAbs*d.natAbs:=by rw[<- vj];exact yn.mpr h
 have h2:Nat.Coprime b.natAbs a.natAbs:=by unfold Nat.Coprime;rw[vd];exact g
 exact yn.mp (Nat.Coprime.dvd_of_dvd_mul_left h2 h1)
theorem aIN {a b c d:Int}(hb:0<b)(hd:0<d)(h:a*d=c*b):a / gd a b=c / gd c d/\b / gd a b=d / gd c d:=by
 obtain⟨e1,e2,p1,q1⟩:=kH (i:=a) hb
 obtain⟨e3,e4,p2,q2⟩:=kH (i:=c) hd
 have g1:=iN (i:=a) hb
 have g2:=iN (i:=c) hd
 generalize gd a b=g at *
 generalize gd c d=k at *
 generalize a / g=a' at *
 generalize b / g=b' at *
 generalize c / k=c' at *
 generalize d / k=d' at *
 have h1:a'*d'=c'*b':=by
  have:(g*k)*(a'*d')=(g*k)*(c'*b'):=by
   have l:(g*k)*(a'*d')=a*d:=by rw[e1,e4];simp only[cv,fk,de]
   have r:(g*k)*(c'*b')=c*b:=by rw[e3,e2];simp only[cv,fk,de]
   rw[l,r,h]
  exact vk (by have:=o9 g1 g2;omega) this
 have v1:b' ∣ d':=by
  have:b' ∣ a'*d':=⟨c',by rw[h1,de]⟩
  exact yB this q1
 have v2:d' ∣ b':=by
  have:d' ∣ c'*b':=⟨a',by rw[<- h1,de]⟩
  exact yB this q2
 have e:b'=d':=uf (w4 p2 v1) (w4 p1 v2)
 subst e
 exact⟨Int.eq_of_mul_eq_mul_right (by omega) h1,rfl⟩
theorem sI {x y:Int}{a b:Nat}(hx:x.natAbs<2 ^ a)(hy:y.natAbs<2 ^ b):(x*y).natAbs<2 ^ (a+b):=by
 rw[vj,Nat.pow_add]
 exact Nat.mul_lt_mul'' hx hy
theorem aIr {i j:Int}{a:Nat}(h:0<j)(hi:i.natAbs<2 ^ a):(i / gd i j).natAbs<2 ^ a:=by
 obtain⟨e1,_⟩:=kH (i:=i) h
 have g0:=iN (i:=i) h
 have:i.natAbs=(gd i j).natAbs*(i / gd i j).natAbs:=by rw[<- vj,<- e1]
 have:(i / gd i j).natAbs<=i.natAbs:=by
  rw[this]
  exact Nat.le_mul_of_pos_left _ (by omega)
 omega
theorem aKH {x:Int}{a b:Nat}(hx:x.natAbs<2 ^ a)(h:a<=b):x.natAbs<2 ^ b:=aw hx (br (by decide) h)
section
variable {K:ae}
def aJr:Sp:=λvs H Q _=>∃i j:Int,vs=[.int i, .int j]/\Q (.int (gd i j)) H
theorem aKo (i:Int):(if i<0 then -i else i)=((i.natAbs:Nat):Int):=by split <;> omega
theorem aKQ {a b:Nat}:((a:Int) % (b:Int))=((a % b:Nat):Int):=(Int.natCast_emod a b).symm
theorem aKv:∀vs H Q E,aJr vs H Q E->hW K { nx:=λ_ H'=>Q .non H',rt:=Q } (bR ["one","other","left"] vs) H:=by
 intro vs H Q E h
 obtain⟨i,j,rfl,q⟩:=h
 refine⟨_,rfl,i,rfl,?_⟩
 refine⟨_,rfl,j,rfl,?_⟩
 refine⟨λm σ' H'=>H'=H/\∃(a b:Nat) (x2:Option V),σ'=[some (.int (a:Int)),some (.int (b:Int)),x2]/\b=m/\Nat.gcd a b=i.gcd j,⟨j.natAbs,rfl,i.natAbs,j.natAbs,none,by rw[aKo,aKo];rfl,rfl,rfl⟩,?_⟩
 rintro m σ' H' ⟨rfl,a,b,x2,rfl,rfl,hg⟩
 refine⟨_,rfl,_,_,rfl,rfl,_,rfl,?_⟩
 by_cases c:0<b
 ·refine cT (decide_eq_true (by omega)) ⟨λσ2 H2=>H2=H'/\∃(a' b':Nat) (x2:Option V),σ2=[some (.int (a':Int)),some (.int (b':Int)),x2]/\b'<b/\Nat.gcd a' b'=i.gcd j,λσ2 H2 ⟨e,a',b',x2,e1,e2,e3⟩=>⟨b',e2,e,a',b',x2,e1,rfl,e3⟩,?_⟩
  refine⟨_,rfl,_,rfl,_,_,rfl,rfl,by show(0:Int)<(b:Int);omega,_,rfl,_,rfl,rfl,b,a % b,some (.int ((a % b:Nat):Int)),?_,Nat.mod_lt _ c,?_⟩
  ·show[some (V.int (b:Int)),some (V.int ((a:Int) % (b:Int))),some (V.int ((a:Int) % (b:Int)))]=_
   rw[aKQ]
  ·rw[vd,<- Nat.gcd_rec,vd];exact hg
 ·refine bB (decide_eq_false (by omega)) ⟨_,rfl,?_⟩
  have:b=0:=by omega
  subst this
  rw[Nat.gcd_zero_right] at hg
  rw[hg]
  exact q
def wQ (K:ae):Sp:=λvs H Q _=>∃i j:Int,vs=[.int i, .int j]/\0<j/\j.natAbs<2 ^ 8000/\∀p H',Same H H'->H' p=some (.tup [.int (i / gd i j), .int (j / gd i j)])->Q (.ref p) H'
theorem wR {i j:Int}(h:0<j)(hj:j.natAbs<2 ^ 8000):aII i (gd i j):=by
 refine⟨iN h,bo ?_ hj⟩
 have:=w4 h (show gd i j ∣ j from Int.gcd_dvd_right i j)
 have:=iN (i:=i) h
 omega
theorem aIo:∀vs H Q E,wQ K vs H Q E->aAL K aJr { nx:=λ_ H'=>Q .non H',rt:=Q } (bR ["top","bottom","measure"] vs) H:=by
 intro vs H Q E h
 obtain⟨i,j,rfl,hj,hb,q⟩:=h
 refine⟨_,rfl,_,rfl,i,j,rfl,?_⟩
 refine⟨_,rfl,_,_,rfl,rfl,_,rfl,bB (decide_eq_false (by omega)) ?_⟩
 refine⟨_,rfl,_,rfl,_,_,rfl,rfl,wR hj hb,_,rfl,_,rfl,_,_,rfl,rfl,wR hj hb,show 2<=bx by decide,λp hp=>?_⟩
 exact q p _ (aI hp _) aG
theorem aFL:∀vs H Q E,wQ K vs H Q E->pU K { nx:=λ_ H'=>Q .non H',rt:=Q } (bR ["top","bottom","one","other"] vs) H:=by
 intro vs H Q E h
 obtain⟨i,j,rfl,hj,hb,q⟩:=h
 refine⟨_,rfl,i,rfl,_,rfl,_,_,rfl,?_⟩
 refine⟨λm σ' H'=>H'=H/\∃(a b:Nat),σ'=[some (.int i),some (.int j),some (.int (a:Int)),some (.int (b:Int))]/\b=m/\Nat.gcd a b=i.gcd j,⟨j.natAbs,rfl,i.natAbs,j.natAbs,by rw[aKo];show[_,_,_,some (V.int j)]=_;rw[show((j.natAbs:Nat):Int)=j by omega],rfl,rfl⟩,?_⟩
 rintro m σ' H' ⟨rfl,a,b,rfl,rfl,hg⟩
 refine⟨_,rfl,_,_,rfl,rfl,_,rfl,?_⟩
 by_cases c:0<b
 ·refine cT (decide_eq_true (by omega)) ⟨λσ2 H2=>H2=H'/\∃(a' b':Nat),σ2=[some (.int i),some (.int j),some (.int (a':Int)),some (.int (b':Int))]/\b'<b/\Nat.gcd a' b'=i.gcd j,λσ2 H2 ⟨e,a',b',e1,e2,e3⟩=>⟨b',e2,e,a',b',e1,rfl,e3⟩,?_⟩
  refine⟨_,rfl,_,rfl,_,rfl,_,_,rfl,rfl,by show(0:Int)<(b:Int);omega,_,_,rfl,rfl,b,a % b,?_,Nat.mod_lt _ c,?_⟩
  ·show[some (V.int i),some (V.int j),some (V.int (b:Int)),some (V.int ((a:Int) % (b:Int)))]=_
   rw[aKQ]
  ·rw[vd,<- Nat.gcd_rec,vd];exact hg
 ·refine bB (decide_eq_false (by omega)) ?_
  have:b=0:=by omega
  subst this
  rw[Nat.gcd_zero_right] at hg
  have eg:(a:Int)=gd i j:=by unfold gd;rw[hg]
  rw[eg]
  refine⟨_,rfl,_,rfl,_,_,rfl,rfl,wR hj hb,_,rfl,_,rfl,_,_,rfl,rfl,wR hj hb,show 2<=bx by decide,λp hp=>?_⟩
  exact q p _ (aI hp _) aG
abbrev Pr:=List (Int×Int)
def prI (P:Pr):List (List Int):=P.map λe=>[e.1,e.2]
theorem aDc {H:Hp}{xs:List V}{P:Pr}(h:Rows K H xs (prI P)){i:Nat}{x:V}(hx:xs[i]?=some x):∃e b,P[i]?=some e/\x = .ref b/\SqT K H b [.int e.1, .int e.2]:=by
 have hi:i<xs.length:=(ai.mp hx).1
 have hl:i<P.length:=by rw[h.1] at hi;unfold prI at hi;rwa[af] at hi
 obtain⟨b,e1,e2⟩:=h.2 i [P[i].1,P[i].2] (by unfold prI;rw[bh,ah hl];rfl)
 rw[hx] at e1
 exact⟨P[i],b,ah hl,az e1,e2⟩
end
theorem zV {a m j:Int}(h0:0<m)(h1:m<=4611686018427387904):CMul (a % m) j := .inl ⟨by have:=xw a (show m≠0 by omega);omega,by have:=Int.emod_lt_of_pos a h0;omega⟩
def aLp (l:Addr) (k:Nat) (z:Int):HO := .lst [.ref l, .int (k:Int), .int z]
def PenAt (H:Hp) (p l:Addr) (ns:List Int) (k:Nat) (z:Int):Prop:=H p=some (aLp l k z)/\H l=some (.lst (ns.map V.int))/\l≠p
def Pen (H:Hp) (p l:Addr) (ns:List Int):Prop:=∃k z,PenAt H p l ns k z
theorem PenAt.put {H:Hp}{p l:Addr}{ns:List Int}{k k':Nat}{z z':Int}(h:PenAt H p l ns k z):PenAt (upd H p (aLp l k' z')) p l ns k' z':=⟨aG,by rw[bC h.2.2];exact h.2.1,h.2.2⟩
theorem PenAt.x {H H':Hp}{p l:Addr}{ns:List Int}{k:Nat}{z:Int}(h:PenAt H p l ns k z)(s:Same H H'):PenAt H' p l ns k z:=⟨s _ _ h.1,s _ _ h.2.1,h.2.2⟩
theorem Pen.x {H H':Hp}{p l:Addr}{ns:List Int}(h:Pen H p l ns)(s:Same H H'):Pen H' p l ns:=by
 obtain⟨k,z,h⟩:=h
 exact⟨k,z,h.x s⟩
theorem Pen.ne {H:Hp}{p l:Addr}{ns:List Int}(h:Pen H p l ns){x:Addr}(hx:H x=none):x≠p/\x≠l:=by
 obtain⟨k,z,h⟩:=h
 exact⟨λe=>(by rw[e,h.1] at hx;cases hx),λe=>(by rw[e,h.2.1] at hx;cases hx)⟩
theorem Pen.upd {H:Hp}{p l:Addr}{ns:List Int}(h:Pen H p l ns){x:Addr}{o:HO}(h1:x≠p)(h2:x≠l):Pen (upd H x o) p l ns:=by
 obtain⟨k,z,h⟩:=h
 exact⟨k,z,by rw[bC (iw h1)];exact h.1,by rw[bC (iw h2)];exact h.2.1,h.2.2⟩
theorem aCt {n a b:Nat}:at2 (dg n (dg n 0)) a b=0:=by
 unfold at2
 have:(dg n (dg n (0:Int))).getD a []=[]\/(dg n (dg n (0:Int))).getD a []=dg n 0:=by
  rw[ak,md]
  split
  ·exact .inr rfl
  ·exact .inl rfl
 rcases this with e | e
 ·rw[e];rfl
 ·rw[e,ak,md]
  split <;> rfl
section
variable {K:ae}
theorem qE {H H':Hp}{a p:Addr}{xs ys:List V}(h:SqT K H a xs)(hp:H p=some (.lst ys))(sx:SameX p H H'):SqT K H' a xs:=by
 rcases h with(h | ⟨ob,h⟩) | h
 ·exact .inl (.inl (sx _ _ (ne_of h hp (λz=>nomatch z)) h))
 ·exact .inl (.inr ⟨ob,sx _ _ (ne_of h hp (λz=>nomatch z)) h⟩)
 ·exact .inr h
def aGH:Sp:=λvs H Q _=>∃(c:Int) (k:Nat),vs=[.int c, .int (k:Int)]/\∀v:Int,Q (.int v) H
theorem aHz:∀vs H Q E,aGH vs H Q E->kD K { nx:=λ_ H'=>Q .non H',rt:=Q } (bR ["cell","at","one","two","three"] vs) H:=by
 intro vs H Q E h
 obtain⟨c,k,rfl,q⟩:=h
 refine⟨_,rfl,_,_,rfl,rfl,by show(0:Int)<1000000007;decide, .inl (.inr ⟨by decide,by decide⟩),_,rfl, .inl (.inr ⟨by decide,by decide⟩),_,_,rfl,rfl,by show(0:Int)<2147483629;decide,?_⟩
 refine⟨_,rfl,_,rfl, .inl (zV (by decide) (by decide)),_,rfl, .inl (.inr ⟨by decide,by decide⟩),_,rfl,_,_,rfl,rfl,by show(0:Int)<65537;decide,_,_,rfl,rfl,by show(0:Int)<2147483587;decide,?_⟩
 refine⟨_,rfl,_,rfl, .inl (zV (by decide) (by decide)),_,rfl, .inl (.inr ⟨by decide,by decide⟩),_,_,rfl,rfl,by show(0:Int)<2147483563;decide,?_⟩
 exact⟨_,rfl, .inl (.inr ⟨by decide,by decide⟩),_,rfl, .inl (.inr ⟨by decide,by decide⟩),_,rfl,q _⟩
def aFC (K:ae):Sp:=λvs H Q _=>∃(a:Addr) (ns:List Int),vs=[.ref a]/\SqL K H a (ns.map V.int)/\∀p l ms H',Same H H'->Pen H' p l ms->Q (.ref p) H'
theorem aGV:∀vs H Q E,aFC K vs H Q E->mG K { nx:=λ_ H'=>Q .non H',rt:=Q } (bR ["script"] vs) H:=by
 intro vs H Q E h
 obtain⟨a,ns,rfl,hS,q⟩:=h
 refine⟨_,rfl,_,rfl, .inl ⟨a,_,rfl,hS,λsc hsc=>?_⟩⟩
 obtain⟨ms,ems,_⟩:=aEw ns none (some 40)
 rw[ems]
 refine .inl ⟨sc,_,rfl, .inl (.of aG),λl hl=>⟨show 3<=bx by decide,λp hp=>?_⟩⟩
 have hlp:l≠p:=λe=>by rw[<- e,aG] at hp;cases hp
 refine q p l ms _ (((aI hsc _).trans (aI hl _)).trans (aI hp _)) ⟨0,0,aG,?_,hlp⟩
 rw[bC hlp]
 exact aG
def kC:Sp:=λvs H Q _=>∃(p l:Addr) (ns:List Int) (m:Nat),vs=[.ref p, .int (m:Int)]/\Pen H p l ns/\1<=m/\m<2 ^ 100/\∀(r:Nat) H',r<m->Pen H' p l ns->SameX p H H'->Q (.int (r:Int)) H'
theorem aGM:∀vs H Q E,kC vs H Q E->mE K aGH { nx:=λ_ H'=>Q .non H',rt:=Q } (bR ["feed","many","at","cell","found"] vs) H:=by
 intro vs H Q E h
 obtain⟨p,l,ns,m,rfl,⟨k,z,hP⟩,h1,hm,q⟩:=h
 have rest:∀(G:Hp) (k':Nat) (z':Int) (x2 x3:Option V),PenAt G p l ns k' z'->SameX p H G->aP (bO (tOp zF (tOp (aZ K) (aD 0) (tC (.int 2))) (aD 1)) (aJ 4)) (aP (bO (tOp pE (tOp (aZ K) (aD 0) (tC (.int 2))) (aD 1)) (lJ (aD 0) (tC (.int 2)) eO)) (aP (cS (aD 4)) aK)) { nx:=λ_ H'=>Q .non H',rt:=Q } [some (.ref p),some (.int (m:Int)),x2,x3,none] G:=λG k' z' x2 x3 hG sx=>by
  obtain⟨r,er,hr⟩:=aBL (c:=z') (n:=m) h1
  refine⟨_,rfl,ixL (j:=2) (.of hG.1) rfl ⟨_,rfl,aAO h1 er ?_⟩⟩
  refine⟨_,rfl,ixL (j:=2) (.of hG.1) rfl ⟨_,rfl,_,_,rfl,rfl,⟨by omega,aKH (a:=100) (by omega) (by decide)⟩,_,rfl,p,_,2,2,rfl,rfl,hG.1,rfl,?_⟩⟩
  exact⟨_,rfl,q r _ hr ⟨k',z' / (m:Int),hG.put⟩ (sx.trans (SameX.put _))⟩
 refine⟨_,rfl,ixL (j:=2) (.of hP.1) rfl ⟨_,rfl,_,_,rfl,rfl,_,rfl,?_⟩⟩
 by_cases c1:z<(m:Int)
 ·refine cT (decide_eq_true c1) ⟨_,rfl,ixL (j:=0) (.of hP.1) rfl ⟨l,_,rfl, .inl (.of hP.2.1),_,_,rfl,rfl,_,rfl,?_⟩⟩
  rw[af]
  by_cases c2:0<ns.length
  ·refine cT (decide_eq_true (by omega)) ?_
   obtain⟨j,ej,hj⟩:=aBL (c:=(k:Int)) (n:=ns.length) c2
   refine⟨_,rfl,ixL (j:=1) (.of hP.1) rfl ?_⟩
   refine⟨_,rfl,ixL (j:=0) (.of hP.1) rfl ⟨_,rfl,_,rfl,ixL (j:=0) (.of hP.1) rfl ⟨l,_,rfl, .inl (.of hP.2.1),?_⟩⟩⟩
   rw[af]
   refine aAO c2 ej ?_
   refine ixL (j:=j) (v := .int (ns.getD j 0)) (.of hP.2.1) (by rw[bh,L2.zJ hj];rfl) ?_
   generalize ns.getD j 0=c
   refine⟨_,rfl,_,rfl,p,_,1,1,rfl,rfl,hP.1,rfl,?_⟩
   have hP1:PenAt (upd H p (.lst ([.ref l, .int (k:Int), .int z].set 1 (.int ((k:Int)+1))))) p l ns (k+1) z:=hP.put
   have sx1:SameX p H (upd H p (.lst ([.ref l, .int (k:Int), .int z].set 1 (.int ((k:Int)+1))))):=SameX.put _
   generalize upd H p (.lst ([.ref l, .int (k:Int), .int z].set 1 (.int ((k:Int)+1))))=G1 at *
   refine⟨_,rfl,_,rfl,p,_,2,2,rfl,rfl,hP1.1,rfl,?_⟩
   have hP2:PenAt (upd G1 p (.lst ([.ref l, .int ((k+1:Nat):Int), .int z].set 2 (.int c)))) p l ns (k+1) c:=hP1.put
   have sx2:=sx1.trans (SameX.put (H:=G1) (.lst ([.ref l, .int ((k+1:Nat):Int), .int z].set 2 (.int c))))
   generalize upd G1 p (.lst ([.ref l, .int ((k+1:Nat):Int), .int z].set 2 (.int c)))=G2 at *
   have mixed:aP (bO (aY aGH [] E0 (aC (aD 3) (aC (aD 2) aQ))) (lJ (aD 0) (tC (.int 2)) eO)) aK { nx:=λσ' H'=>aP (bO (tOp zF (tOp (aZ K) (aD 0) (tC (.int 2))) (aD 1)) (aJ 4)) (aP (bO (tOp pE (tOp (aZ K) (aD 0) (tC (.int 2))) (aD 1)) (lJ (aD 0) (tC (.int 2)) eO)) (aP (cS (aD 4)) aK)) { nx:=λ_ H'=>Q .non H',rt:=Q } σ' H',rt:=Q } [some (.ref p),some (.int (m:Int)),some (.int (k:Int)),some (.int c),none] G2:=by
    refine⟨_,rfl,_,rfl,c,k,rfl,λv=>⟨_,rfl,p,_,2,2,rfl,rfl,hP2.1,rfl,?_⟩⟩
    exact rest _ (k+1) v _ _ hP2.put (sx2.trans (SameX.put _))
   refine⟨_,rfl,10,18,rfl,rfl,⟨by decide,by decide,by decide⟩,_,_,rfl,rfl,_,rfl,?_⟩
   by_cases c3:c<10 ^ 18
   ·exact cT (decide_eq_true c3) (cT rfl mixed)
   ·refine bB (decide_eq_false c3) ⟨_,rfl,_,rfl,ixL (j:=0) (.of hP2.1) rfl ⟨l,_,rfl, .inl (.of hP2.2.1),_,_,rfl,rfl,_,rfl,?_⟩⟩
    exact nQ (λ_=>mixed) λ_=>rest _ (k+1) c _ _ hP2 sx2
  ·exact bB (decide_eq_false (by omega)) (rest H k z _ _ hP (SameX.refl _ _))
 ·exact bB (decide_eq_false c1) (rest H k z _ _ hP (SameX.refl _ _))
def Bs (M:List (List Int)) (n:Nat):Prop:=∀i j,i<n->j<n->0<=at2 M i j/\at2 M i j<=1000000
def Sy (M:List (List Int)) (n:Nat):Prop:=∀i j,i<n->j<n->at2 M i j=at2 M j i
theorem aFa {M:List (List Int)}{n i j:Nat}{v:Int}(b:Bs M n)(s:Sy M n)(q:Quad M n)(hi:i<n)(hj:j<n)(h0:0<=v)(h1:v<=1000000):Bs (xS (xS M i j v) j i v) n/\Sy (xS (xS M i j v) j i v) n:=by
 have q1:=kM (j:=j) (v:=v) q hi
 have e:∀a c,at2 (xS (xS M i j v) j i v) a c=if(a=j/\c=i)\/(a=i/\c=j) then v else at2 M a c:=λa c=>by
  rw[sO q1 hj hi,sO q hi hj]
  by_cases h1:a=j/\c=i
  ·rw[if_pos h1,if_pos (.inl h1)]
  ·rw[if_neg h1]
   by_cases h2:a=i/\c=j
   ·rw[if_pos h2,if_pos (.inr h2)]
   ·rw[if_neg h2,if_neg (λz=>z.elim h1 h2)]
 refine⟨λa c ha hc=>?_,λa c ha hc=>?_⟩
 ·rw[e]
  split
  ·exact⟨h0,h1⟩
  ·exact b a c ha hc
 ·rw[e,e]
  by_cases c1:(a=j/\c=i)\/(a=i/\c=j)
  ·rw[if_pos c1,if_pos (by omega)]
  ·rw[if_neg c1,if_neg (by omega)]
   exact s a c ha hc
def prN (L:List (Nat×Nat)):List (List Int):=L.map λe=>[(e.1:Int),(e.2:Int)]
theorem rC {H:Hp}{xs:List V}{L:List (Nat×Nat)}(h:Rows K H xs (prN L)){i:Nat}{x:V}(hx:xs[i]?=some x):∃e b,L[i]?=some e/\x = .ref b/\SqT K H b [dJ e.1,dJ e.2]:=by
 have hi:i<xs.length:=(ai.mp hx).1
 have hl:i<L.length:=by rw[h.1] at hi;unfold prN at hi;rwa[af] at hi
 obtain⟨b,e1,e2⟩:=h.2 i [(L[i].1:Int),(L[i].2:Int)] (by unfold prN;rw[bh,ah hl];rfl)
 rw[hx] at e1
 exact⟨L[i],b,ah hl,az e1,e2⟩
theorem jS {L:List (Nat×Nat)}:(prN L).length=L.length:=by unfold prN;rw[af]
theorem aFJ {L M:List (Nat×Nat)}:prN (L++M)=prN L++prN M:=by unfold prN;rw[bz]
theorem nY {H:Hp}{xs ys:List V}{T U:List (List Int)}(h:Rows K H xs T)(g:Rows K H ys U):Rows K H (xs++ys) (T++U):=by
 refine⟨by rw[bc,bc,h.1,g.1],λi row e=>?_⟩
 by_cases hi:i<T.length
 ·rw[c8 hi] at e
  obtain⟨b,e1,e2⟩:=h.2 i row e
  exact⟨b,by rw[c8 (by rw[h.1];exact hi)];exact e1,e2⟩
 ·rw[c5 (by omega)] at e
  obtain⟨b,e1,e2⟩:=g.2 _ row e
  exact⟨b,by rw[c5 (by rw[h.1];omega),h.1];exact e1,e2⟩
def gC (K:ae):Sp:=λvs H Q _=>∃n:Nat,vs=[.int (n:Int)]/\n<=8/\∀F ys M H',Same H H'->H F=none->H' F=some (.lst ys)->Rows K H' ys (prN M)->(∀e∈M,e.1<e.2/\e.2<n)->(∀a b,a<b->b<n->(a,b)∈M)->M.length<=64->Q (.ref F) H'
theorem aEH:∀vs H Q E,gC K vs H Q E->kB K { nx:=λ_ H'=>Q .non H',rt:=Q } (bR ["many","found","i"] vs) H:=by
 intro vs H Q E h
 obtain⟨n,rfl,h8,q⟩:=h
 refine⟨show 0<=bx by decide,λF hF=>?_⟩
 have mF:=aI hF (.lst [])
 have hF1:(upd H F (.lst [])) F=some (.lst []):=aG
 generalize upd H F (.lst [])=G at *
 refine⟨_,rfl,(n:Int),rfl,by omega,by omega,?_⟩
 rw[bu]
 refine cZ (lo:=0) (n:=n) (λi σ' H'=>Same H H'/\∃F x2 ys M,σ'=[some (.int (n:Int)),some (.ref F),x2]/\H F=none/\H' F=some (.lst ys)/\Rows K H' ys (prN M)/\(∀e∈M,e.1<e.2/\e.2<n)/\(∀a b,a<i->a<b->b<n->(a,b)∈M)/\M.length<=8*i) ⟨mF,F,none,[],[],rfl,hF,hF1,Rows.nil,(λ_ z=>nomatch z),(λa _ h=>absurd h (l9 a)),ba _⟩ (λi σ' H1 hi ⟨m1,F1,x2,ys,M,es,hF0,hF2,r2,g2,c2,z2⟩=>?_) λσ' H1 ⟨m1,F1,x2,ys,M,es,hF0,hF2,r2,g2,c2,z2⟩=>?_
 ·subst es
  rw[kh]
  refine⟨_,rfl,_,rfl,_,rfl,_,_,rfl,⟨by omega,by omega,by omega,by omega⟩,λA hA=>?_⟩
  rw[show((n:Int) - ((i:Int)+1)).toNat=n - (i+1) by omega]
  have e1:prN ((aq (n - (i+1))).map λk=>(i,i+1+k))=(aq (n - (i+1))).flatMap λk=>[[(i:Int),((i+1+k:Nat):Int)]]:=by
   unfold prN
   rw[dr]
   have:∀(L:List Nat) (f:Nat->List Int),(L.flatMap λk=>[f k])=L.map f:=λL f=>by
    induction L with
    |nil=>rfl
    |cons a L ih=>rw[ly,ih];rfl
   rw[this]
   rfl
  refine aAG (K:=K) [0] (prN ((aq (n - (i+1))).map λk=>(i,i+1+k))) hA (by rw[jS,af,e7];omega) (EmR.cast (uT (lo:=(i:Int)+1) (by decide) (by show 0<2;decide) λk σ2 H2 hk l2 ag2 s0 sx2=>?_) e1.symm) λσ2 H2 pre m2 hA2 r3=>?_
  ·have t1:σ2[1]?=some (some (.int (i:Int))):=(ag2 1 (by decide)).trans rfl
   have e3:(i:Int)+1+(k:Int)=((i+1+k:Nat):Int):=by omega
   rw[e3] at s0
   exact aCX (by show 2<=100;decide) λR hR=>⟨_,t1,_,s0,hR⟩
  ·have hF3:=m2 _ _ hF2
   refine .inl ⟨F1,A,ys,pre,rfl,rfl,hF3,hA2,?_,λF4 hF4=>?_⟩
   ·rw[r3.1,r2.1,jS,jS,af,e7]
    exact c9 (show _<=100 by omega) (by decide)
   ·have m4:=aI hF4 (.lst (ys++pre))
    refine⟨(m1.trans m2).trans m4,F4,_,ys++pre,M++(aq (n - (i+1))).map λk=>(i,i+1+k),rfl,(m1.trans m2).free hF4,aG,?_,λe he=>?_,λx y hx hxy hy=>?_,?_⟩
    ·rw[aFJ]
     exact(nY (r2.same m2) r3).same m4
    ·rcases du.mp he with he | he
     ·exact g2 e he
     ·obtain⟨k,hk,rfl⟩:=bt.mp he
      have hk:=da.mp hk
      exact⟨by show i<i+1+k;omega,by show i+1+k<n;omega⟩
    ·by_cases ci:x<i
     ·exact j7 _ (c2 x y ci hxy hy)
     ·obtain rfl:x=i:=by omega
      exact di _ (bt.mpr ⟨y - (x+1),da.mpr (by omega),by show(x,x+1+(y - (x+1)))=(x,y);rw[show x+1+(y - (x+1))=y by omega]⟩)
    ·rw[bc,af,e7];omega
 ·subst es
  exact⟨_,rfl,q F1 ys M H1 m1 hF0 hF2 r2 g2 (λa b h1 h2=>c2 a b (by omega) h1 h2) (by omega)⟩
def Flo (M:List (List Int)) (n k i0 j0:Nat) (M':List (List Int)):Prop:=∀a b,a<n->b<n->at2 M' a b=if a<i0\/(a=i0/\b<j0) then min (at2 M a b) (at2 M a k+at2 M k b) else at2 M a b
theorem aGT {M M':List (List Int)}{n k:Nat}(hk:k<n)(b:Bs M n)(s:Sy M n)(f:Flo M n k n 0 M'):Bs M' n/\Sy M' n:=by
 refine⟨λi j hi hj=>?_,λi j hi hj=>?_⟩
 ·rw[f i j hi hj,if_pos (.inl hi)]
  have:=b i j hi hj
  have:=b i k hi hk
  have:=b k j hk hj
  omega
 ·rw[f i j hi hj,f j i hj hi,if_pos (.inl hi),if_pos (.inl hj),s i j hi hj,s i k hi hk,s k j hk hj,AH]
theorem aCT {M M':List (List Int)}{n k i0 j0:Nat}(hk:k<n)(b:Bs M n)(f:Flo M n k i0 j0 M'){x:Nat}(hx:x<n):at2 M' x k=at2 M x k/\at2 M' k x=at2 M k x:=by
 have:=b k k hk hk
 constructor
 ·rw[f x k hx hk]
  split
  ·omega
  ·rfl
 ·rw[f k x hk hx]
  split
  ·omega
  ·rfl
def fJ (K:ae):Sp:=λvs H Q _=>∃(F:Addr) (ls:List Addr) (M:List (List Int)) (n:Nat),vs=[.ref F]/\Mat H F ls M/\Quad M n/\Bs M n/\Sy M n/\1<=n/\n<=8/\∀T v H',Same H H'->Quad T n->Bs T n->Sy T n->Sh K H' (uZ T) v->Q v H'
theorem aCd:∀vs H Q E,fJ K vs H Q E->jX K { nx:=λ_ H'=>Q .non H',rt:=Q } (bR ["rows","found","k","i","j","step"] vs) H:=by
 intro vs H Q E h
 obtain⟨F0,ls0,M0,n,rfl,m0,q0,b0,y0,n1,n8,q⟩:=h
 have l0:ls0.length=n:=by rw[m0.len,q0.len]
 have lenF:∀{H'},Same H H'->SqL K H' F0 (ls0.map V.ref):=λs => .of (s _ _ m0.top)
 refine⟨_,rfl,F0,rfl, .inl ⟨⟨_, .of m0.top⟩,λF hF=>?_⟩⟩
 refine aAz (vars:=[0]) (K:=K) (a:=F0) (xs:=ls0.map V.ref) (λi L H'=>∃ls:List Addr,L=ls.map V.ref/\ls.length=i/\ls.Nodup/\F∉ls/\(∀(j:Nat) (x:Addr) (r:List Int),ls[j]?=some x->M0[j]?=some r->H' x=some (.lst (r.map V.int)))/\(∀x∈ls,∃r:List Int,H' x=some (.lst (r.map V.int)))/\∀x∈ls,H x=none) (by decide) (by show 0<1;decide) ⟨[],rfl,rfl,vi,by simp,(λ_ _ _ z=>by cases z),by simp,by simp⟩ hF (λi L H' sm _=>lenF sm) (λi x σ1 H2 L D hx l1 ag1 s1 sm1 ha1 ⟨ls,e1,e2,e3,e4,e5,e55,e6⟩ hD=>?_) λσ1 H2 L sm1 ha1 ⟨ls,e1,e2,e3,e4,e5,e55,e6⟩=>?_
 ·have hi:i<ls0.length:=by have:=(ai.mp hx).1;rwa[af] at this
  obtain⟨row,g1,g2,g3⟩:=q0.get (show i<n by omega)
  obtain rfl:x = .ref ls0[i]:=by
   rw[bh,ah hi] at hx
   exact(az hx).symm
  have hrow:=m0.row i _ row (ah hi) g1
  refine⟨_,s1, .inl ⟨ls0[i],row.map V.int,rfl, .inl (.of (sm1 _ _ hrow)),λp2 hp2=>?_⟩⟩
  have hp2F:p2≠F:=λe=>by rw[e,ha1] at hp2;cases hp2
  refine⟨L,by rw[bC (iw hp2F)];exact ha1,bo (show L.length<=9 by rw[e1,af];omega) (by decide),?_⟩
  have keep:∀b o,b≠F->H2 b=some o->upd (upd H2 p2 (.lst (row.map V.int))) F (.lst (L++[V.ref p2])) b=some o:=λb o hb e=>by
   rw[bC hb,bC (bK e hp2)];exact e
  refine hD σ1 _ (L++[.ref p2]) l1 ag1 (λb o e=>keep b o (bK e hF) (sm1 _ _ e)) aG ⟨ls++[p2],by rw[e1,bz];rfl,by rw[bc,e2];rfl,?_,?_,?_,?_,?_⟩
  ·refine xV e3 λhmem=>?_
   obtain⟨r,g⟩:=e55 p2 hmem
   rw[g] at hp2;cases hp2
  ·intro hmem
   rcases du.mp hmem with y | y
   ·exact e4 y
   ·exact hp2F (dw.mp y).symm
  ·intro j x r hj hr
   by_cases cj:j<ls.length
   ·rw[c8 cj] at hj
    exact keep x _ (λe=>e4 (e ▸ au hj)) (e5 j x r hj hr)
   ·have ej:j=ls.length:=by
     have:=(ai.mp hj).1
     rw[bc,xo] at this
     omega
    rw[ej,c5 (ba _),AF] at hj
    cases hj
    rw[ej,e2,g1] at hr
    cases hr
    rw[bC hp2F]
    exact aG
  ·intro x hx
   rcases du.mp hx with y | y
   ·obtain⟨r,g⟩:=e55 x y
    exact⟨r,keep x _ (λe=>e4 (e ▸ y)) g⟩
   ·rw[dw.mp y]
    exact⟨row,by rw[bC hp2F];exact aG⟩
  ·intro x hx
   rcases du.mp hx with y | y
   ·exact e6 x y
   ·rw[dw.mp y]
    exact sm1.free hp2
 rw[af] at e2
 have mat0:Mat H2 F ls M0:=⟨by rw[ha1,e1],by rw[e2];exact m0.len,e5,e3,e4⟩
 refine⟨_,rfl,F0,_,rfl, .inl (lenF sm1),(n:Int),by rw[af,l0],by omega,by omega,?_⟩
 rw[bu]
 refine cZ (lo:=0) (n:=n) (λk σ' H'=>Same H H'/\∃x2 x3 x4 x5 M,σ'=[some (.ref F0),some (.ref F),x2,x3,x4,x5]/\Mat H' F ls M/\Quad M n/\Bs M n/\Sy M n) ⟨sm1,_,_,_,_,M0,rfl,mat0,q0,b0,y0⟩ (λk σ2 H3 hk ⟨s3,x2,x3,x4,x5,M,es,mM,qM,bM,yM⟩=>?_) λσ2 H3 ⟨s3,x2,x3,x4,x5,M,es,mM,qM,bM,yM⟩=>?_
 ·subst es
  rw[kh]
  refine⟨_,rfl,F0,_,rfl, .inl (lenF s3),(n:Int),by rw[af,l0],by omega,by omega,?_⟩
  rw[bu]
  refine cZ (lo:=0) (n:=n) (λi σ' H'=>Same H H'/\∃x3 x4 x5 M',σ'=[some (.ref F0),some (.ref F),some (.int (k:Int)),x3,x4,x5]/\Mat H' F ls M'/\Quad M' n/\Flo M n k i 0 M') ⟨s3,_,_,_,M,rfl,mM,qM,λa b _ _=>by rw[if_neg (by omega)]⟩ (λi σ3 H4 hi ⟨s4,x3,x4,x5,M4,es,m4,q4,f4⟩=>?_) λσ3 H4 ⟨s4,x3,x4,x5,M4,es,m4,q4,f4⟩=>?_
  ·subst es
   rw[kh]
   refine⟨_,rfl,F0,_,rfl, .inl (lenF s4),(n:Int),by rw[af,l0],by omega,by omega,?_⟩
   rw[bu]
   refine cZ (lo:=0) (n:=n) (λj σ' H'=>Same H H'/\∃x4 x5 M',σ'=[some (.ref F0),some (.ref F),some (.int (k:Int)),some (.int (i:Int)),x4,x5]/\Mat H' F ls M'/\Quad M' n/\Flo M n k i j M') ⟨s4,_,_,M4,rfl,m4,q4,f4⟩ (λj σ4 H5 hj ⟨s5,x4,x5,M5,es,m5,q5,f5⟩=>?_) λσ4 H5 ⟨s5,x4,x5,M5,es,m5,q5,f5⟩=>?_
   ·subst es
    rw[kh]
    refine aAl (t:=1) (si:=3) (sj:=2) m5 q5 rfl rfl rfl hi hk (aAl (t:=1) (si:=2) (sj:=4) m5 q5 rfl rfl rfl hk hj ?_)
    dsimp only[dD]
    refine aAl (t:=1) (si:=3) (sj:=4) m5 q5 rfl rfl rfl hi hj ⟨_,rfl,_,_,rfl,?_⟩
    have ik:=(aCT hk bM f5 hi).1
    have kj:=(aCT hk bM f5 hj).2
    refine zK (t:=1) (si:=3) (sj:=4) m5 q5 rfl rfl rfl hi hj λl' H6 hl' e6' m6=>⟨?_,_,_,_,rfl,m6,kM q5 hi,λa b ha hb=>?_⟩
    ·intro c o e
     rw[e6',bC (bK e (e6 l' hl'))]
     exact s5 _ _ e
    ·rw[sO q5 hi hj]
     have hij:at2 M5 i j=at2 M i j:=by rw[f5 i j hi hj,if_neg (by omega)]
     by_cases ce:a=i/\b=j
     ·rw[if_pos ce,hij,ik,kj]
      obtain⟨rfl,rfl⟩:=ce
      rw[if_pos (show a<a\/(a=a/\b<b+1) by omega)]
      split <;> omega
     ·rw[if_neg ce,f5 a b ha hb]
      by_cases cl:a<i\/(a=i/\b<j)
      ·rw[if_pos cl,if_pos (by omega)]
      ·rw[if_neg cl,if_neg (by omega)]
   ·subst es
    refine⟨s5,_,_,_,M5,rfl,m5,q5,λa b ha hb=>?_⟩
    rw[f5 a b ha hb]
    by_cases cl:a<i+1
    ·rw[if_pos (by omega),if_pos (.inl cl)]
    ·rw[if_neg (by omega),if_neg (by omega)]
  ·subst es
   obtain⟨b5,y5⟩:=aGT hk bM yM f4
   exact⟨s4,_,_,_,_,M4,rfl,m4,q4,b5,y5⟩
 ·subst es
  exact wY (t:=1) rfl mM qM (by omega) λp9 H' sm hS=>q M _ H' (s3.trans sm) qM bM yM hS
end
def e1 (K:ae) (dO:Sp) (dY:Sp) (dZ:Sp):TS:=(aP (bO (aY dO [] E0 (aC (aD 0) (aC (aD 5) aQ))) (aJ 10)) (aP (dP (bH (tOp (gE K) (aD 4) (tC (.int 1)))) (aP (bO (tOp dQ (tOp zF (aD 10) (tC (.int 2))) (tOp oX (aD 5) (tC (.int 1)))) (aJ 10)) aK) aK) (aP (dP (tOr (bH (tOp (gE K) (aD 4) (tC (.int 2)))) (bH (tOp (gE K) (aD 4) (tC (.int 3))))) (aP (bO (tCB aAr (aC (tOp oX (tOp (aZ K) (tOp (aZ K) (aD 7) (aD 8)) (tC (.int 0))) (tOp (aZ K) (tOp (aZ K) (aD 7) (aD 9)) (tC (.int 0)))) aQ)) (aJ 10)) aK) aK) (aP (dP (bH (tOp (gE K) (aD 4) (tC (.int 3)))) (aP (bO (tOp (dD K) (aD 10) (tCB aAr (aC (tOp oX (tOp (aZ K) (tOp (aZ K) (aD 7) (aD 8)) (tC (.int 1))) (tOp (aZ K) (tOp (aZ K) (aD 7) (aD 9)) (tC (.int 1)))) aQ))) (aJ 10)) aK) aK) (aP (dP (bH (tOp (gE K) (aD 4) (tC (.int 4)))) (aP (bO (tOp oX (aD 5) (tC (.int 1))) (aJ 10)) aK) aK) (aP (bO (tCB sU (aC (aD 10) (aC (tOp aFA (tC (.int 10)) (tC (.int 6))) aQ))) (lJ (tOp (aZ K) (aD 6) (aD 8)) (aD 9) eO)) (aP (bO (tOp (aZ K) (tOp (aZ K) (aD 6) (aD 8)) (aD 9)) (lJ (tOp (aZ K) (aD 6) (aD 9)) (aD 8) eO)) aK)))))))
def e2 (K:ae) (dO:Sp) (dY:Sp) (dZ:Sp):TS:=(aP (dP (bH (tOp (gE K) (aD 4) (tC (.int 1)))) (aP (bO (tOp dQ (tOp zF (aD 10) (tC (.int 2))) (tOp oX (aD 5) (tC (.int 1)))) (aJ 10)) aK) aK) (aP (dP (tOr (bH (tOp (gE K) (aD 4) (tC (.int 2)))) (bH (tOp (gE K) (aD 4) (tC (.int 3))))) (aP (bO (tCB aAr (aC (tOp oX (tOp (aZ K) (tOp (aZ K) (aD 7) (aD 8)) (tC (.int 0))) (tOp (aZ K) (tOp (aZ K) (aD 7) (aD 9)) (tC (.int 0)))) aQ)) (aJ 10)) aK) aK) (aP (dP (bH (tOp (gE K) (aD 4) (tC (.int 3)))) (aP (bO (tOp (dD K) (aD 10) (tCB aAr (aC (tOp oX (tOp (aZ K) (tOp (aZ K) (aD 7) (aD 8)) (tC (.int 1))) (tOp (aZ K) (tOp (aZ K) (aD 7) (aD 9)) (tC (.int 1)))) aQ))) (aJ 10)) aK) aK) (aP (dP (bH (tOp (gE K) (aD 4) (tC (.int 4)))) (aP (bO (tOp oX (aD 5) (tC (.int 1))) (aJ 10)) aK) aK) (aP (bO (tCB sU (aC (aD 10) (aC (tOp aFA (tC (.int 10)) (tC (.int 6))) aQ))) (lJ (tOp (aZ K) (aD 6) (aD 8)) (aD 9) eO)) (aP (bO (tOp (aZ K) (tOp (aZ K) (aD 6) (aD 8)) (aD 9)) (lJ (tOp (aZ K) (aD 6) (aD 9)) (aD 8) eO)) aK))))))
def e3 (K:ae) (dO:Sp) (dY:Sp) (dZ:Sp):TS:=(aP (dP (tOr (bH (tOp (gE K) (aD 4) (tC (.int 2)))) (bH (tOp (gE K) (aD 4) (tC (.int 3))))) (aP (bO (tCB aAr (aC (tOp oX (tOp (aZ K) (tOp (aZ K) (aD 7) (aD 8)) (tC (.int 0))) (tOp (aZ K) (tOp (aZ K) (aD 7) (aD 9)) (tC (.int 0)))) aQ)) (aJ 10)) aK) aK) (aP (dP (bH (tOp (gE K) (aD 4) (tC (.int 3)))) (aP (bO (tOp (dD K) (aD 10) (tCB aAr (aC (tOp oX (tOp (aZ K) (tOp (aZ K) (aD 7) (aD 8)) (tC (.int 1))) (tOp (aZ K) (tOp (aZ K) (aD 7) (aD 9)) (tC (.int 1)))) aQ))) (aJ 10)) aK) aK) (aP (dP (bH (tOp (gE K) (aD 4) (tC (.int 4)))) (aP (bO (tOp oX (aD 5) (tC (.int 1))) (aJ 10)) aK) aK) (aP (bO (tCB sU (aC (aD 10) (aC (tOp aFA (tC (.int 10)) (tC (.int 6))) aQ))) (lJ (tOp (aZ K) (aD 6) (aD 8)) (aD 9) eO)) (aP (bO (tOp (aZ K) (tOp (aZ K) (aD 6) (aD 8)) (aD 9)) (lJ (tOp (aZ K) (aD 6) (aD 9)) (aD 8) eO)) aK)))))
def e4 (K:ae) (dO:Sp) (dY:Sp) (dZ:Sp):TS:=(aP (dP (bH (tOp (gE K) (aD 4) (tC (.int 3)))) (aP (bO (tOp (dD K) (aD 10) (tCB aAr (aC (tOp oX (tOp (aZ K) (tOp (aZ K) (aD 7) (aD 8)) (tC (.int 1))) (tOp (aZ K) (tOp (aZ K) (aD 7) (aD 9)) (tC (.int 1)))) aQ))) (aJ 10)) aK) aK) (aP (dP (bH (tOp (gE K) (aD 4) (tC (.int 4)))) (aP (bO (tOp oX (aD 5) (tC (.int 1))) (aJ 10)) aK) aK) (aP (bO (tCB sU (aC (aD 10) (aC (tOp aFA (tC (.int 10)) (tC (.int 6))) aQ))) (lJ (tOp (aZ K) (aD 6) (aD 8)) (aD 9) eO)) (aP (bO (tOp (aZ K) (tOp (aZ K) (aD 6) (aD 8)) (aD 9)) (lJ (tOp (aZ K) (aD 6) (aD 9)) (aD 8) eO)) aK))))
def e5 (K:ae) (dO:Sp) (dY:Sp) (dZ:Sp):TS:=(aP (dP (bH (tOp (gE K) (aD 4) (tC (.int 4)))) (aP (bO (tOp oX (aD 5) (tC (.int 1))) (aJ 10)) aK) aK) (aP (bO (tCB sU (aC (aD 10) (aC (tOp aFA (tC (.int 10)) (tC (.int 6))) aQ))) (lJ (tOp (aZ K) (aD 6) (aD 8)) (aD 9) eO)) (aP (bO (tOp (aZ K) (tOp (aZ K) (aD 6) (aD 8)) (aD 9)) (lJ (tOp (aZ K) (aD 6) (aD 9)) (aD 8) eO)) aK)))
def e6 (K:ae) (dO:Sp) (dY:Sp) (dZ:Sp):TS:=(aP (bO (tCB sU (aC (aD 10) (aC (tOp aFA (tC (.int 10)) (tC (.int 6))) aQ))) (lJ (tOp (aZ K) (aD 6) (aD 8)) (aD 9) eO)) (aP (bO (tOp (aZ K) (tOp (aZ K) (aD 6) (aD 8)) (aD 9)) (lJ (tOp (aZ K) (aD 6) (aD 9)) (aD 8) eO)) aK))
def aFU (p:Addr) (ls:List Addr) (H H':Hp):Prop:=∀b o,b≠p->b∉ls->H b=some o->H' b=some o
theorem aCl {a b:Nat}:eqD (.int (a:Int)) (.int (b:Int))=decide (a=b):=by
 rw[eqD]
 by_cases c:a=b
 ·rw[decide_eq_true c,c];simp
 ·rw[decide_eq_false c];simp;omega
section
variable {K:ae}{p l F:Addr}{ls:List Addr}{ns:List Int}{n:Nat}
structure Ro (K:ae)(G:Hp)(p l F:Addr)(ls:List Addr)(ns:List Int)(n:Nat)(H':Hp):Prop where
 ex:∃M,Quad M n/\Bs M n/\Sy M n/\Mat H' F ls M
 pen:Pen H' p l ns
 sl:aFU p ls G H'
theorem Ro.draw {G H' H2:Hp}(h:Ro K G p l F ls ns n H')(hF:F≠p)(hl:∀x∈ls,x≠p)(hP:Pen H2 p l ns)(sx:SameX p H' H2):Ro K G p l F ls ns n H2:=by
 obtain⟨M,q,b,s,m⟩:=h.ex
 exact⟨⟨M,q,b,s,m.keep λc o hc e=>sx c o (by rcases hc with rfl | hc;exact hF;exact hl c hc) e⟩,hP,λc o hc hn e=>sx c o hc (h.sl c o hc hn e)⟩
variable {G:Hp}{x0 x1 x2:Option V}{way top i j A:Nat}{D:mB}{zs:List V}{R:List (List Int)}
structure Fx (K:ae)(G:Hp)(p l F:Addr)(ls:List Addr)(n A:Nat)(zs:List V)(R:List (List Int)):Prop where
 F:F≠p
 l:∀x∈ls,x≠p/\x≠l
 Ap:A≠p
 Al:A∉ls
 hA:G A=some (.lst zs)
 rows:Rows K G zs R
 two:R.length=n/\∀r∈R,∃a b,r=[a,b]
 pen:∃o,G p=some (.lst o)
 lst:∀x∈ls,∃o,G x=some (.lst o)
theorem aHd {H':Hp}{b:Addr}{xs:List V}(fx:Fx K G p l F ls n A zs R)(sl:aFU p ls G H')(h:SqT K G b xs):SqT K H' b xs:=by
 obtain⟨o,ho⟩:=fx.pen
 have np:∀u,G b=some u->(∀ys,u ≠ .lst ys)->b≠p/\b∉ls:=λu e hu=>⟨λz=>by rw[z,ho] at e;exact hu _ (az e).symm,λz=>by
  obtain⟨o',ho'⟩:=fx.lst b z
  rw[ho'] at e
  exact hu _ (az e).symm⟩
 rcases h with(h | ⟨ob,h⟩) | h
 ·have:=np _ h (λys e=>by cases e)
  exact .inl (.inl (sl _ _ this.1 this.2 h))
 ·have:=np _ h (λys e=>by cases e)
  exact .inl (.inr ⟨ob,sl _ _ this.1 this.2 h⟩)
 ·exact .inr h
theorem tM {H':Hp}{σ:St}{Q:VK}{t s k:Nat}{c:Nat}(hk:k<2)(fx:Fx K G p l F ls n A zs R)(sl:aFU p ls G H')(ht:σ[t]?=some (some (.ref A)))(hs:σ[s]?=some (some (.int (c:Int))))(hc:c<n)(q:∀v:Int,Q (.int v) H'):tOp (aZ K) (tOp (aZ K) (aD t) (aD s)) (tC (.int (k:Int))) σ H' Q:=by
 have hcR:c<R.length:=by rw[fx.two.1];exact hc
 obtain⟨a,b,e⟩:=fx.two.2 _ (f6 hcR)
 obtain⟨d,e1,e2⟩:=fx.rows.2 c R[c] (ah hcR)
 have hA':=sl _ _ fx.Ap fx.Al fx.hA
 rw[e] at e2
 refine⟨_,ht,_,hs,ixL (j:=c) (.of hA') e1 ?_⟩
 match k,hk with
 |0,_=>exact ixT (j:=0) (aHd fx sl e2) rfl (q a)
 |1,_=>exact ixT (j:=1) (aHd fx sl e2) rfl (q b)
def StE (p:Addr) (x1 x2:Option V) (n way top:Nat) (F A:Addr) (i j:Nat) (x:Option V):St:=[some (.ref p),x1,x2,some (.int (n:Int)),some (.int (way:Int)),some (.int (top:Int)),some (.ref F),some (.ref A),some (.int (i:Int)),some (.int (j:Int)),x]
theorem aHK {H':Hp}{v:Int}(fx:Fx K G p l F ls n A zs R)(ro:Ro K G p l F ls ns n H')(hi:i<n)(hj:j<n)(hij:i<j)(h0:0<=v)(q:∀x H2,Ro K G p l F ls ns n H2->D.nx (StE p x1 x2 n way top F A i j x) H2):e6 K kC (gC K) (fJ K) D (StE p x1 x2 n way top F A i j (some (.int v))) H':=by
 obtain⟨M,qM,bM,sM,mM⟩:=ro.ex
 refine⟨_,rfl,10,6,rfl,rfl,⟨by decide,by decide,by decide⟩,_,_,rfl,?_⟩
 have hw:∃w:Int,(if((10:Int) ^ (6:Int).toNat)<v then((10:Int) ^ (6:Int).toNat) else v)=w/\0<=w/\w<=1000000:=by
  refine⟨_,rfl,?_⟩
  have:((10:Int) ^ (6:Int).toNat)=1000000:=by decide
  rw[this]
  split <;> omega
 obtain⟨w,ew,w0,w1⟩:=hw
 rw[ew]
 refine zK (t:=6) (si:=8) (sj:=9) mM qM rfl rfl rfl hi hj λl1 H1 hl1 e1 m1=>?_
 have q1:=kM (j:=j) (v:=w) qM hi
 refine aAl (t:=6) (si:=8) (sj:=9) m1 q1 rfl rfl rfl hi hj ?_
 rw[sO qM hi hj,if_pos ⟨rfl,rfl⟩]
 refine zK (t:=6) (si:=9) (sj:=8) m1 q1 rfl rfl rfl hj hi λl2 H2 hl2 e2 m2=>q _ H2 ⟨⟨_,kM q1 hj,(aFa bM sM qM hi hj w0 w1).1,(aFa bM sM qM hi hj w0 w1).2,m2⟩,?_,λc o hc hn e=>?_⟩
 ·rw[e2,e1]
  exact(ro.pen.upd (fx.l l1 hl1).1 (fx.l l1 hl1).2).upd (fx.l l2 hl2).1 (fx.l l2 hl2).2
 ·rw[e2,bC (λz=>hn (by rw[z];exact hl2)),e1,bC (λz=>hn (by rw[z];exact hl1))]
  exact ro.sl c o hc hn e
theorem aHw {H':Hp}{v:Int}(fx:Fx K G p l F ls n A zs R)(ro:Ro K G p l F ls ns n H')(hi:i<n)(hj:j<n)(hij:i<j)(ht:2<=top)(h0:0<=v)(q:∀x H2,Ro K G p l F ls ns n H2->D.nx (StE p x1 x2 n way top F A i j x) H2):e5 K kC (gC K) (fJ K) D (StE p x1 x2 n way top F A i j (some (.int v))) H':=by
 refine⟨_,rfl, .int (way:Int), .int 4,av _,rfl,rfl,_,rfl,nQ (λ_=>?_) λ_=>?_⟩
 ·exact⟨_,rfl,_,_,rfl,rfl,aHK fx ro hi hj hij (by omega) q⟩
 ·exact aHK fx ro hi hj hij h0 q
theorem aHI {H':Hp}{v:Int}(fx:Fx K G p l F ls n A zs R)(ro:Ro K G p l F ls ns n H')(hi:i<n)(hj:j<n)(hij:i<j)(ht:2<=top)(h0:0<=v)(q:∀x H2,Ro K G p l F ls ns n H2->D.nx (StE p x1 x2 n way top F A i j x) H2):e4 K kC (gC K) (fJ K) D (StE p x1 x2 n way top F A i j (some (.int v))) H':=by
 refine⟨_,rfl, .int (way:Int), .int 3,av _,rfl,rfl,_,rfl,nQ (λ_=>?_) λ_=>?_⟩
 ·refine⟨_,rfl,tM (t:=7) (s:=8) (k:=1) (by decide) fx ro.sl rfl rfl hi λa=>tM (t:=7) (s:=9) (k:=1) (by decide) fx ro.sl rfl rfl hj λb=>⟨_,_,rfl,rfl,_,rfl,?_⟩⟩
  exact aHw fx ro hi hj hij ht (by split <;> omega) q
 ·exact aHw fx ro hi hj hij ht h0 q
theorem aIt {H':Hp}{v:Int}(fx:Fx K G p l F ls n A zs R)(ro:Ro K G p l F ls ns n H')(hi:i<n)(hj:j<n)(hij:i<j)(ht:2<=top)(h0:0<=v)(q:∀x H2,Ro K G p l F ls ns n H2->D.nx (StE p x1 x2 n way top F A i j x) H2):e3 K kC (gC K) (fJ K) D (StE p x1 x2 n way top F A i j (some (.int v))) H':=by
 have go:(aP (bO (tCB aAr (aC (tOp oX (tOp (aZ K) (tOp (aZ K) (aD 7) (aD 8)) (tC (.int 0))) (tOp (aZ K) (tOp (aZ K) (aD 7) (aD 9)) (tC (.int 0)))) aQ)) (aJ 10)) aK) { D with nx:=e4 K kC (gC K) (fJ K) D } (StE p x1 x2 n way top F A i j (some (.int v))) H':=by
  refine tM (t:=7) (s:=8) (k:=0) (by decide) fx ro.sl rfl rfl hi λa=>tM (t:=7) (s:=9) (k:=0) (by decide) fx ro.sl rfl rfl hj λb=>⟨_,_,rfl,rfl,_,rfl,?_⟩
  exact aHI fx ro hi hj hij ht (by split <;> omega) q
 refine⟨_,rfl, .int (way:Int), .int 2,av _,rfl,rfl,_,rfl,nQ (λ_=>cT rfl go) λ_=>⟨_,rfl, .int (way:Int), .int 3,av _,rfl,rfl,_,rfl,nQ (λ_=>go) λ_=>aHI fx ro hi hj hij ht h0 q⟩⟩
theorem aJX {H':Hp}{v:Int}(fx:Fx K G p l F ls n A zs R)(ro:Ro K G p l F ls ns n H')(hi:i<n)(hj:j<n)(hij:i<j)(ht:2<=top)(ht2:top<=1000001)(h0:0<=v)(q:∀x H2,Ro K G p l F ls ns n H2->D.nx (StE p x1 x2 n way top F A i j x) H2):e2 K kC (gC K) (fJ K) D (StE p x1 x2 n way top F A i j (some (.int v))) H':=by
 refine⟨_,rfl, .int (way:Int), .int 1,av _,rfl,rfl,_,rfl,nQ (λ_=>?_) λ_=>?_⟩
 ·refine⟨_,rfl,_,_,rfl,rfl,by show(0:Int)<2;decide,_,rfl,_,_,rfl,rfl, .inl (.inr ⟨by omega,by omega⟩),?_⟩
  exact aIt fx ro hi hj hij ht (iq (xw _ (by decide)) (by omega)) q
 ·exact aIt fx ro hi hj hij ht h0 q
theorem aJx {H':Hp}{x:Option V}(fx:Fx K G p l F ls n A zs R)(ro:Ro K G p l F ls ns n H')(hi:i<n)(hj:j<n)(hij:i<j)(ht:2<=top)(ht2:top<=1000001)(q:∀x H2,Ro K G p l F ls ns n H2->D.nx (StE p x1 x2 n way top F A i j x) H2):e1 K kC (gC K) (fJ K) D (StE p x1 x2 n way top F A i j x) H':=by
 refine⟨_,rfl,_,rfl,p,l,ns,top,rfl,ro.pen,by omega,bo ht2 (by decide),λr H2 hr hP sx=>?_⟩
 exact aJX fx (ro.draw fx.F (λx hx=>(fx.l x hx).1) hP sx) hi hj hij ht ht2 (by omega) q
def aFl (K:ae):Sp:=λvs H Q _=>∃(p l:Addr) (ns:List Int) (lo d:Nat),vs=[.ref p, .int (lo:Int), .int ((lo+d:Nat):Int)]/\1<=lo/\lo+d<=8/\Pen H p l ns/\∀T n v H',lo<=n->n<=lo+d->Quad T n->Bs T n->Sy T n->Sh K H' (uZ T) v->Pen H' p l ns->SameX p H H'->Q v H'
theorem aDW:∀vs H Q E,aFl K vs H Q E->mW K kC (gC K) (fJ K) { nx:=λ_ H'=>Q .non H',rt:=Q } (bR ["feed","least","most","many","way","top","rows","spots","i","j","found"] vs) H:=by
 intro vs H Q E h
 obtain⟨p,l,ns,lo,d,rfl,lo1,lo8,hP0,q⟩:=h
 refine⟨_,rfl,_,rfl,_,rfl,_,rfl,_,_,rfl,rfl,p,l,ns,d+1,by show[V.ref p, .int (((lo+d:Nat):Int) - (lo:Int)+1)]=[V.ref p, .int ((d+1:Nat):Int)];rw[show((lo+d:Nat):Int) - (lo:Int)+1=((d+1:Nat):Int) by omega],hP0,by omega,bo (show d+1<=9 by omega) (by decide),λr0 H0 hr0 hP1 sx0=>?_⟩
 dsimp only[dD]
 obtain⟨n,en⟩:∃n:Nat,n=lo+r0:=⟨_,rfl⟩
 rw[show(lo:Int)+(r0:Int)=(n:Int) by omega]
 refine⟨_,rfl,p,l,ns,8,rfl,hP1,by decide,by decide,λway H1 hway hP2 sx1=>?_⟩
 refine⟨show 4<=bx by decide,λt0 ht0=>⟨_,rfl,p,l,ns,4,rfl,hP2.x (aI ht0 _),by decide,by decide,λr2 H2 hr2 hP3 sx2=>?_⟩⟩
 have et0:H2 t0=some (.lst [.int 2, .int 5, .int 30, .int 1000001]):=sx2 _ _ (hP2.ne ht0).1 aG
 have sx02:SameX p H H2:=((sx0.trans sx1).trans (aI ht0 _).x).trans sx2
 have ctop:∃top:Nat,[V.int 2, .int 5, .int 30, .int 1000001][r2]?=some (.int (top:Int))/\2<=top/\top<=1000001:=by
  match r2,hr2 with
  |0,_=>exact⟨2,rfl,by decide,by decide⟩
  |1,_=>exact⟨5,rfl,by decide,by decide⟩
  |2,_=>exact⟨30,rfl,by decide,by decide⟩
  |3,_=>exact⟨1000001,rfl,by decide,by decide⟩
 obtain⟨top,etop,top2,topb⟩:=ctop
 refine ixL (j:=r2) (.of et0) etop ?_
 refine⟨_,rfl,(n:Int),rfl,by omega,by omega,λF hF=>?_⟩
 rw[bu]
 refine aCx (vars:=[0]) (λi L H'=>∃ls:List Addr,L=ls.map V.ref/\ls.length=i/\ls.Nodup/\F∉ls/\(∀l∈ls,H' l=some (.lst (dg n (.int 0))))/\∀l∈ls,H2 l=none) (by decide) (by show 0<2;decide) ⟨[],rfl,rfl,vi,by simp,by simp,by simp⟩ hF (λi σ1 H3 L D hi l1 ag1 s1 sm1 ha1 ⟨ls,e1,e2,e3,e4,e5,e6⟩ hD=>?_) λσ1 H3 L sm1 ha1 ⟨ls,e1,e2,e3,e4,e5,e6⟩=>?_
 ·have m1:σ1[1]?=some (some (.int (n:Int))):=(ag1 1 (by decide)).trans rfl
  refine⟨by show 1<=bx;decide,λp' hp=>⟨_,m1,p',(n:Int),_,rfl,rfl,aG,by omega,by omega,?_,λp2 hp2=>?_⟩⟩
  ·rw[bu]
   exact c9 (show 1*n<=9 by omega) (by decide)
  have hpF:p'≠F:=λe=>by rw[e,ha1] at hp;cases hp
  have hF2:upd H3 p' (.lst [V.int 0]) F=some (.lst L):=by rw[bC (iw hpF)];exact ha1
  have hp2F:p2≠F:=λe=>by rw[e,hF2] at hp2;cases hp2
  rw[bu,List.flatten_replicate_singleton]
  refine⟨L,by rw[bC (iw hp2F)];exact hF2,bo (show L.length<=9 by rw[e1,af];omega) (by decide),?_⟩
  have keep:∀b o,b≠F->H3 b=some o->upd (upd (upd H3 p' (.lst [V.int 0])) p2 (.lst (dg n (V.int 0)))) F (.lst (L++[V.ref p2])) b=some o:=λb o hb e=>by
   have e':upd H3 p' (.lst [V.int 0]) b=some o:=by rw[bC (bK e hp)];exact e
   rw[bC hb,bC (bK e' hp2)];exact e'
  refine hD σ1 _ (L++[.ref p2]) l1 ag1 (λb o e=>keep b o (bK e hF) (sm1 _ _ e)) aG ⟨ls++[p2],by rw[e1,bz];rfl,by rw[bc,e2];rfl,?_,?_,?_,?_⟩
  ·refine xV e3 λhmem=>?_
   have g:=e5 p2 hmem
   have g':upd H3 p' (.lst [V.int 0]) p2=some (.lst (dg n (.int 0))):=by rw[bC (bK g hp)];exact g
   rw[g'] at hp2;cases hp2
  ·intro hmem
   rcases du.mp hmem with y | y
   ·exact e4 y
   ·exact hp2F (dw.mp y).symm
  ·intro x hx
   rcases du.mp hx with y | y
   ·exact keep x _ (λe=>e4 (e ▸ y)) (e5 x y)
   ·rw[dw.mp y,bC hp2F]
    exact aG
  ·intro x hx
   rcases du.mp hx with y | y
   ·exact e6 x y
   ·rw[dw.mp y]
    exact(sm1.trans (aI hp _)).free hp2
 have mat0:Mat H3 F ls (dg n (dg n 0)):=by
  refine⟨by rw[ha1,e1],by rw[e2,m8],λi x r a b=>?_,e3,e4⟩
  have:=e5 x (au a)
  rw[md] at b
  split at b
  ·cases b
   rw[this,List.map_replicate]
  ·cases b
 have quad0:Quad (dg n (dg n (0:Int))) n:=⟨m8,λr hr=>by rw[List.eq_of_mem_replicate hr,m8]⟩
 have hP4:=hP3.x sm1
 have nFp:=(hP3.ne hF).1
 have nls:∀x∈ls,x≠p/\x≠l:=λx hx=>hP3.ne (e6 x hx)
 refine⟨_,rfl,(n:Int),rfl,by omega,by omega,λA hA=>?_⟩
 rw[bu]
 have nA:=hP4.ne hA
 have nAls:A∉ls:=λh=>by have:=e5 A h;rw[this] at hA;cases hA
 refine cZ (lo:=0) (n:=n) (λi σ' H'=>(∃y0,σ'=[y0,some (.ref p),some (.int (top:Int))])/\Pen H' p l ns/\SameX p H3 H'/\∃L R,H' A=some (.lst L)/\Rows K H' L R/\R.length=i/\∀r∈R,∃a b,r=[a,b]) ⟨⟨_,rfl⟩,hP4.x (aI hA _),(aI hA _).x,[],[],aG,Rows.nil,rfl,(λ_ z=>nomatch z)⟩ (λi σ2 H5 hi ⟨⟨y0,es⟩,hP5,sx5,L5,R5,hA5,r5,z5,t5⟩=>?_) λσ2 H5 ⟨⟨y0,es⟩,hP5,sx5,L5,R5,hA5,r5,z5,t5⟩=>?_
 ·subst es
  refine⟨_,rfl,_,rfl,p,l,ns,top,rfl,hP5,by omega,bo topb (by decide),λra H6 _ hP6 sx6=>?_⟩
  refine⟨_,rfl,_,rfl,p,l,ns,top,rfl,hP6,by omega,bo topb (by decide),λrb H7 _ hP7 sx7=>⟨show 2<=bx by decide,λu hu=>?_⟩⟩
  have mu:=aI hu (.tup [V.int (ra:Int), .int (rb:Int)])
  have sx67:=sx6.trans sx7
  obtain⟨k5,z5',hp5⟩:=hP5
  have hA7:=mu _ _ (sx67 _ _ nA.1 hA5)
  have r7:Rows K (upd H7 u (.tup [V.int (ra:Int), .int (rb:Int)])) L5 R5:=(r5.map λb rr hb=>qE hb hp5.1 sx67).same mu
  refine⟨L5,hA7,bo (show L5.length<=9 by rw[r5.1];omega) (by decide),⟨_,rfl⟩,(hP7.x mu).upd nA.1 nA.2,?_,_,R5++[[(ra:Int),(rb:Int)]],aG,?_,by rw[bc,z5];rfl,λr hr=>?_⟩
  ·intro c o hc e
   rw[bC (bK e hA)]
   exact mu _ _ (sx67 _ _ hc (sx5 _ _ hc e))
  ·exact Rows.put (Rows.snoc r7 (.of aG)) hA7
  ·rcases du.mp hr with hr | hr
   ·exact t5 r hr
   ·rw[dw.mp hr];exact⟨_,_,rfl⟩
 subst es
 have mat5:Mat H5 F ls (dg n (dg n 0)):=mat0.keep λc o hc e=>sx5 c o (by rcases hc with rfl | hc;exact nFp;exact(nls c hc).1) e
 refine⟨_,rfl,n,rfl,by omega,λFp ys M H6 m6 hFp0 hFp rp gM _ zM=>?_⟩
 refine⟨Fp,rfl, .inl ⟨⟨_, .of hFp⟩,?_⟩⟩
 obtain⟨k6,z6,hp6⟩:=hP5.x m6
 have fx:Fx K H6 p l F ls n A L5 R5:=⟨nFp,nls,nA.1,nAls,m6 _ _ hA5,r5.same m6,⟨z5,t5⟩,⟨_,hp6.1⟩,λx hx=>⟨_,m6 _ _ (sx5 _ _ (nls x hx).1 (e5 x hx))⟩⟩
 have nFpp:Fp≠p:=(hP5.ne hFp0).1
 have nFpl:Fp∉ls:=λh=>by
  have:=sx5 _ _ (nls Fp h).1 (e5 Fp h)
  rw[hFp0] at this
  cases this
 have ro0:Ro K H6 p l F ls ns n H6:=⟨⟨_,quad0,λi j _ _=>by rw[aCt];omega,λi j _ _=>by rw[aCt,aCt],mat5.same m6⟩,⟨k6,z6,hp6⟩,λc o _ _ e=>e⟩
 refine bJ (K:=K) (a:=Fp) (xs:=ys) (λk σ' H'=>Ro K H6 p l F ls ns n H'/\∃x8 x9 x10,σ'=[some (.ref p),some (.int (lo:Int)),some (.int ((lo+d:Nat):Int)),some (.int (n:Int)),some (.int (way:Int)),some (.int (top:Int)),some (.ref F),some (.ref A),x8,x9,x10]) ⟨ro0,_,_,_,rfl⟩ (λk σ' H' _ ⟨ro,_⟩ => .of (ro.sl _ _ nFpp nFpl hFp)) (λk x σ' H' hx ⟨ro,x8,x9,x10,es⟩=>?_) λσ' H' ⟨ro,x8,x9,x10,es⟩=>?_
 ·subst es
  obtain⟨e,b,he,rfl,hb⟩:=rC rp hx
  obtain⟨g1,g2⟩:=gM e (au he)
  refine⟨b,_,rfl,aHd fx ro.sl hb,rfl,dJ e.1,[dJ e.2],rfl,dJ e.2,[],rfl,rfl,?_⟩
  exact aJx (way:=way) (x:=x10) fx ro (by omega) g2 g1 top2 topb λx H7 ro7=>⟨ro7,_,_,_,rfl⟩
 ·subst es
  obtain⟨M',qM,bM,sM,mM⟩:=ro.ex
  have sxE:SameX p H H':=λc o hc e=>by
   have c3:H3 c=some o:=sm1 _ _ (sx02 _ _ hc e)
   have hn:c∉ls:=λh=>by
    have h2:=e6 c h
    rw[sx02 _ _ hc e] at h2
    cases h2
   exact ro.sl c o hc hn (m6 _ _ (sx5 _ _ hc c3))
  refine⟨_,rfl,_,_,rfl,rfl,_,rfl,nQ (λ_=>?_) λ_=>?_⟩
  ·exact⟨_,rfl,F,ls,M',n,rfl,mM,qM,bM,sM,by omega,by omega,λT v H8 s8 qT bT sT hT=>q T n v H8 (by omega) (by omega) qT bT sT hT (ro.pen.x s8) (sxE.trans s8.x)⟩
  ·exact wY (t:=6) rfl mM qM (by omega) λp9 H8 s8 hT=>q M' n _ H8 (by omega) (by omega) qM bM sM hT (ro.pen.x s8) (sxE.trans s8.x)
end
def Ev (T:List (List Int)) (n:Nat):Prop:=∀i j,i<n->j<n->at2 T i j=at2 T j i
def lP (T:List (List Int)) (n:Nat):List Bool:=(aq n).flatMap λi=>(aq i).flatMap λj=>[at2 T i j == at2 T j i]
section
variable {K:ae}
def aHq (K:ae) (f:List (List Int)->Nat->Bool):Sp:=λvs H Q _=>∃(v:V) (T:List (List Int)) (n:Nat),vs=[v]/\Sh K H (uZ T) v/\Quad T n/\1<=n/\n<=8/\∀H',Same H H'->Q (.bl (f T n)) H'
theorem aHa:∀vs H Q E,aHq K (λT n=>(lP T n).all id) vs H Q E->xB K { nx:=λ_ H'=>Q .non H',rt:=Q } (bR ["table","many"] vs) H:=by
 intro vs H Q E h
 obtain⟨v,T,n,rfl,hS,hq,h1,hn,q⟩:=h
 obtain⟨a,rs,rfl,ha,hl,hrow⟩:=id hS.tab
 have hl:rs.length=n:=hl.trans hq.len
 refine⟨_,rfl,a,rs,rfl, .inr ha,?_⟩
 rw[hl]
 refine⟨_,rfl,(n:Int),rfl,by omega,by omega,λacc hacc=>?_⟩
 rw[bu]
 refine bP [0,1] ((lP T n).map V.bl) hacc ?_ ?_ λσ' H' sm hl'=>⟨acc,lP T n,rfl, .inl (.of hl'),q H' sm⟩
 ·rw[af]
  have:=eP (λi=>(aq i).flatMap λj=>[at2 T i j == at2 T j i]) 8 n λi hi=>by
   have:=eP (λj=>[at2 T i j == at2 T j i]) 1 i λ_ _=>ba _
   omega
  unfold lP
  omega
 ·refine Emits.cast (L:=(aq n).flatMap λi=>(aq i).flatMap λj=>[V.bl (at2 T i j == at2 T j i)]) ?_ (by unfold lP;simp only[mU,c4,uw])
  refine iZ (by decide) (by show 0<3;decide) λi σ1 H1 hi l1 ag1 s1 sx1 _=>?_
  rw[kh] at s1
  refine Emits.mono (vars:=[1]) (wZ (by decide) (by rw[l1];show 1<3;decide) (by omega) (λQ hQ=>⟨_,s1,hQ H1 (Same.refl _)⟩) λj σ2 H2 hj l2 ag2 s2 sx2 _=>?_) (by simp)
  have t2:σ2[2]?=some (some (.ref a)):=(ag2 2 (by decide)).trans ((ag1 2 (by decide)).trans rfl)
  have u1:σ2[0]?=some (some (.int (i:Int))):=(ag2 0 (by decide)).trans s1
  have S2:=hS.same (cI hacc (sx1.trans sx2))
  refine cL λQ hQ=>?_
  refine pM t2 u1 s2 S2 hq (by omega) (by omega) (pM t2 s2 u1 S2 hq (by omega) (by omega) ⟨.int _, .int _,av _,rfl,rfl,?_⟩)
  unfold eqD
  exact hQ H2 (Same.refl _)
theorem aEu {T:List (List Int)}{n:Nat}(h:Ev T n):(lP T n).all id=true:=by
 unfold lP
 rw[pX]
 refine bw.mpr λi hi=>?_
 rw[pX]
 refine bw.mpr λj hj=>?_
 have hi:=da.mp hi
 have hj:=da.mp hj
 rw[h i j hi (by omega)]
 simp
end
section
variable {K:ae}
abbrev aLA (K:ae):Sp:=aHq K (λT n=>(lP T n).all id)
end
end K36
namespace Sh
def sumN:Nat->(Nat->Int)->Int
 |0,_=>0
 |n+1,f=>sumN n f+f n
theorem sumN_congr {f g:Nat->Int}:∀{n:Nat},(∀k,k<n->f k=g k)->sumN n f=sumN n g
 |0,_=>rfl
 |n+1,h=>by
  show sumN n f+f n=sumN n g+g n
  rw[sumN_congr λk hk=>h k (fj hk),h n (jo n)]
theorem aAU {f g:Nat->Int}{a:Int}:∀n:Nat,sumN n (λk=>a*f k+g k)=a*sumN n f+sumN n g
 |0=>by simp[sumN]
 |n+1=>by
  show sumN n (λk=>a*f k+g k)+(a*f n+g n)=a*(sumN n f+f n)+(sumN n g+g n)
  rw[aAU n,qx]
  omega
theorem sumN_mul {f:Nat->Int}{a:Int}:∀n:Nat,sumN n (λk=>a*f k)=a*sumN n f
 |0=>by simp[sumN]
 |n+1=>by
  show sumN n (λk=>a*f k)+a*f n=a*(sumN n f+f n)
  rw[sumN_mul n,qx]
theorem iY {f g:Nat->Int}:∀n:Nat,sumN n (λk=>f k+g k)=sumN n f+sumN n g
 |0=>rfl
 |n+1=>by
  show sumN n (λk=>f k+g k)+(f n+g n)=(sumN n f+f n)+(sumN n g+g n)
  rw[iY n]
  omega
theorem kG {f:Nat->Int}{n:Nat}(h:∀k,k<n->f k=0):sumN n f=0:=by
 induction n with
 |zero=>rfl
 |succ n ih=>
  show sumN n f+f n=0
  rw[ih λk hk=>h k (by omega),h n (by omega)]
  rfl
theorem gY {f:Nat->Int}{n i:Nat}(hi:i<n)(h:∀k,k<n->k≠i->f k=0):sumN n f=f i:=by
 induction n with
 |zero=>omega
 |succ n ih=>
  show sumN n f+f n=f i
  by_cases c:i=n
  ·subst c
   rw[kG λk hk=>h k (by omega) (by omega)]
   omega
  ·rw[ih (by omega) λk hk hne=>h k (by omega) hne,h n (by omega) (iw c)]
   omega
theorem aAm {f:Nat->Int}{n i j:Nat}(hi:i<n)(hj:j<n)(hij:i≠j)(h:∀k,k<n->k≠i->k≠j->f k=0):sumN n f=f i+f j:=by
 have e:sumN n f=sumN n (λk=>if k=i then f i else 0)+sumN n (λk=>if k=j then f j else 0):=by
  rw[<- iY]
  refine sumN_congr λk hk=>?_
  by_cases c1:k=i
  ·rw[if_pos c1,if_neg (by omega),c1];omega
  ·by_cases c2:k=j
   ·rw[if_neg c1,if_pos c2,c2];omega
   ·rw[if_neg c1,if_neg c2,h k hk c1 c2];rfl
 rw[e,gY hi λk _ hne=>if_neg hne,gY hj λk _ hne=>if_neg hne,if_pos rfl,if_pos rfl]
theorem oP {f:Nat->Int}{n:Nat}(h:∀k,k<n->0<=f k):0<=sumN n f:=by
 induction n with
 |zero=>exact qy _
 |succ n ih=>
  have h1:=ih λk hk=>h k (by omega)
  have h2:=h n (by omega)
  show 0<=sumN n f+f n
  omega
theorem aAv {f:Nat->Int}{n:Nat}(h:0<sumN n f):∃k,k<n/\0<f k:=by
 apply cz
 intro no
 have:0<=sumN n λk=>-1*f k:=oP λk hk=>by
  have:¬ 0<f k:=λz=>no ⟨k,hk,z⟩
  omega
 rw[sumN_mul] at this
 omega
abbrev Vec:=Nat->Int
abbrev Tup:=Nat->Vec
def up (b:Tup) (i:Nat) (v:Vec):Tup:=λk=>if k=i then v else b k
theorem eM {b:Tup}{i:Nat}{v:Vec}:up b i v i=v:=if_pos rfl
theorem jO {b:Tup}{i k:Nat}{v:Vec}(h:k≠i):up b i v k=b k:=if_neg h
theorem iF {b:Tup}{i:Nat}:up b i (b i)=b:=by
 funext k
 unfold up
 split
 ·rename_i h;rw[h]
 ·rfl
theorem aKD {b:Tup}{i:Nat}{u v:Vec}:up (up b i u) i v=up b i v:=by
 funext k
 unfold up
 split <;> rfl
theorem lD {b:Tup}{i j:Nat}{u v:Vec}(h:i≠j):up (up b i u) j v=up (up b j v) i u:=by
 funext k
 unfold up
 by_cases c1:k=i
 ·by_cases c2:k=j
  ·exact absurd (c1.symm.trans c2) h
  ·rw[if_neg c2,if_pos c1,if_pos c1]
 ·by_cases c2:k=j
  ·rw[if_pos c2,if_neg c1,if_pos c2]
  ·rw[if_neg c2,if_neg c1,if_neg c1,if_neg c2]
def skip (i:Nat) (b:Tup):Tup:=λk=>if k<i then b k else b (k+1)
def sg (i:Nat):Int:=if i % 2=0 then 1 else -1
theorem aFK (i:Nat):sg (i+1) = - sg i:=by
 unfold sg
 by_cases c:i % 2=0
 ·rw[if_pos c,if_neg (by omega)]
 ·rw[if_neg c,if_pos (by omega)];rfl
theorem aIL (i:Nat):sg (i+i)=1:=by unfold sg;rw[if_pos (by omega)]
def det:Nat->Tup->Int
 |0,_=>1
 |M+1,b=>sumN (M+1) λi=>sg (i+M)*(b i M*det M (skip i b))
theorem yA {b b':Tup}:∀{M:Nat},(∀k,k<M->b k=b' k)->det M b=det M b':=by
 intro M
 induction M generalizing b b' with
 |zero=>intro _;rfl
 |succ M ih=>
  intro h
  refine sumN_congr λi hi=>?_
  rw[h i hi,ih λk hk=>?_]
  unfold skip
  split
  ·exact h k (by omega)
  ·exact h (k+1) (by omega)
theorem yZ {b:Tup}{i k:Nat}{w:Vec}(h:k≠i):skip k (up b i w)=up (skip k b) (if i<k then i else i - 1) w:=by
 funext x
 show(if x<k then(if x=i then w else b x) else(if x+1=i then w else b (x+1)))=if x=(if i<k then i else i - 1) then w else if x<k then b x else b (x+1)
 by_cases c:i<k
 ·rw[if_pos c]
  by_cases c1:x<k
  ·rw[if_pos c1,if_pos c1]
  ·rw[if_neg c1,if_neg c1,if_neg (by omega),if_neg (by omega)]
 ·rw[if_neg c]
  by_cases c1:x<k
  ·rw[if_pos c1,if_pos c1,if_neg (by omega),if_neg (by omega)]
  ·rw[if_neg c1,if_neg c1]
   by_cases c2:x+1=i
   ·rw[if_pos c2,if_pos (by omega)]
   ·rw[if_neg c2,if_neg (by omega)]
theorem iD {b:Tup}{i:Nat}{w:Vec}:skip i (up b i w)=skip i b:=by
 funext x
 unfold skip up
 by_cases c1:x<i
 ·rw[if_pos c1,if_pos c1,if_neg (by omega)]
 ·rw[if_neg c1,if_neg c1,if_neg (by omega)]
theorem lT {a:Int}{u v:Vec}:∀{M:Nat}{b:Tup}{i:Nat},i<M->det M (up b i λc=>a*u c+v c)=a*det M (up b i u)+det M (up b i v):=by
 intro M
 induction M with
 |zero=>intro b i h;omega
 |succ M ih=>
  intro b i hi
  show sumN (M+1) _=a*sumN (M+1) _+sumN (M+1) _
  rw[<- aAU]
  refine sumN_congr λk hk=>?_
  by_cases c:k=i
  ·subst c
   rw[iD,iD,iD,eM,eM,eM]
   show sg (k+M)*((a*u M+v M)*det M (skip k b))=a*(sg (k+M)*(u M*det M (skip k b)))+sg (k+M)*(v M*det M (skip k b))
   rw[ui,qx,cv a,fk (sg (k+M)) a]
  ·rw[yZ c,yZ c,yZ c,jO c,jO c,jO c,ih (by split <;> omega),qx,qx,fk (b k M) a,fk (sg (k+M)) a]
theorem aGZ {b:Tup}{i:Nat}(h:b i=b (i+1)):skip i b=skip (i+1) b:=by
 funext x
 unfold skip
 by_cases c1:x<i
 ·rw[if_pos c1,if_pos (by omega)]
 ·rw[if_neg c1]
  by_cases c2:x=i
  ·subst c2
   rw[if_pos (by omega),h]
  ·rw[if_neg (by omega)]
theorem aDj:∀{M:Nat}{b:Tup}{i:Nat},i+1<M->b i=b (i+1)->det M b=0:=by
 intro M
 induction M with
 |zero=>intro b i h;omega
 |succ M ih=>
  intro b i hi hb
  show sumN (M+1) _=0
  rw[aAm (i:=i) (j:=i+1) (by omega) hi (by omega) λk hk h1 h2=>?_]
  ·rw[aGZ hb,hb,show i+1+M=(i+M)+1 by omega,aFK]
   rw[jv]
   omega
  ·have:det M (skip k b)=0:=by
    by_cases c:k<i
    ·refine ih (i:=i - 1) (by omega) ?_
     unfold skip
     rw[if_neg (by omega),if_neg (by omega),show i - 1+1=i by omega,hb]
    ·refine ih (i:=i) (by omega) ?_
     unfold skip
     rw[if_pos (by omega),if_pos (by omega),hb]
   rw[this,fv,fv]
theorem aCg {M:Nat}{b:Tup}{i j:Nat}{u v:Vec}(hi:i<M)(hj:j<M)(hij:i≠j)(z:∀w,det M (up (up b i w) j w)=0):det M (up (up b i u) j v) = - det M (up (up b i v) j u):=by
 have h:=z λc=>(1:Int)*u c+v c
 rw[lT hj,lD hij,lT hi,lD hij,lT hi,lD (iw hij),lD (iw hij),lD (iw hij),lD (iw hij),z u,z v] at h
 omega
theorem vS {M:Nat}{b:Tup}{i:Nat}{u v:Vec}(h:i+1<M):det M (up (up b i u) (i+1) v) = - det M (up (up b i v) (i+1) u):=
 aCg (by omega) h (by omega) λw=>aDj h (by rw[jO (by omega),eM,eM])
theorem aFn {M:Nat}:∀(n:Nat) {b:Tup}{i j:Nat},j - i=n->i<j->j<M->b i=b j->det M b=0:=by
 intro n
 induction n with
 |zero=>intro b i j h1 h2;omega
 |succ n ih=>
  intro b i j h1 h2 h3 hb
  by_cases c:j=i+1
  ·subst c
   exact aDj h3 hb
  ·obtain⟨k,rfl⟩:∃k,j=k+1:=⟨j - 1,by omega⟩
   have e:det M b=det M (up (up b k (b k)) (k+1) (b (k+1))):=by rw[iF,iF]
   rw[e,vS h3,ih (i:=i) (j:=k) (by omega) (by omega) (by omega) ?_]
   ·rfl
   ·rw[jO (by omega),jO (by omega),jO (by omega),eM,hb]
theorem gO {M:Nat}{b:Tup}{i j:Nat}(hi:i<M)(hj:j<M)(hij:i≠j)(hb:b i=b j):det M b=0:=by
 rcases Nat.lt_or_gt_of_ne hij with h | h
 ·exact aFn _ rfl h hj hb
 ·exact aFn _ rfl h hi hb.symm
theorem aDP {M:Nat}{b:Tup}{i j:Nat}{u v:Vec}(hi:i<M)(hj:j<M)(hij:i≠j):det M (up (up b i u) j v) = - det M (up (up b i v) j u):=
 aCg hi hj hij λw=>gO hi hj hij (by rw[jO hij,eM,eM])
def unit (i:Nat):Vec:=λc=>if c=i then 1 else 0
theorem aAH:∀M:Nat,det M unit=1:=by
 intro M
 induction M with
 |zero=>rfl
 |succ M ih=>
  show sumN (M+1) _=1
  rw[gY (i:=M) (by omega) λk hk hne=>?_]
  ·have e:det M (skip M unit)=det M unit:=yA λk hk=>by unfold skip;rw[if_pos hk]
   rw[e,ih,aIL]
   show(1:Int)*((if M=M then 1 else 0)*1)=1
   rw[if_pos rfl]
   rfl
  ·have:unit k M=0:=if_neg (by omega)
   rw[this,pw,fv]
theorem nV {M:Nat}{b:Tup}{i:Nat}{a:Int}{u:Vec}(hi:i<M):det M (up b i λc=>a*u c)=a*det M (up b i u):=by
 have z:det M (up b i λ_=>0)=0:=by
  have h:=lT (M:=M) (b:=b) (i:=i) (a:=1) (u:=λ_=>0) (v:=λ_=>0) hi
  have e:(λc:Nat=>(1:Int)*(λ_=>0) c+(λ_=>(0:Int)) c)=λ_=>0:=by funext c;simp
  rw[e] at h
  omega
 have h:=lT (M:=M) (b:=b) (i:=i) (a:=a) (u:=u) (v:=λ_=>0) hi
 have e:(λc=>a*u c+(λ_=>(0:Int)) c)=λc=>a*u c:=by funext c;simp
 rw[e,z] at h
 omega
theorem oN {M:Nat}{b:Tup}{i:Nat}{a:Nat->Int}{w:Nat->Vec}(hi:i<M):∀n:Nat,det M (up b i λc=>sumN n λk=>a k*w k c)=sumN n λk=>a k*det M (up b i (w k))
 |0=>by
  have:=nV (M:=M) (b:=b) (i:=i) (a:=0) (u:=λ_=>0) hi
  simp at this
  exact this
 |n+1=>by
  have e:(λc=>sumN (n+1) λk=>a k*w k c)=λc=>a n*w n c+(λc=>sumN n λk=>a k*w k c) c:=by
   funext c
   show sumN n (λk=>a k*w k c)+a n*w n c=a n*w n c+sumN n (λk=>a k*w k c)
   exact AH ..
  rw[e,lT hi,oN hi n]
  show _=sumN n (λk=>a k*det M (up b i (w k)))+a n*det M (up b i (w n))
  exact AH ..
section
variable {A:Nat->Vec}{m N:Nat}{h h':Nat->Nat}
def bv (A:Nat->Vec) (m:Nat) (h:Nat->Nat):Tup:=λi=>if i<m then A (h i) else unit m
def R (A:Nat->Vec) (m:Nat) (h:Nat->Nat) (i j:Nat):Int:=det (m+1) (up (bv A m h) i (A j))
def dd (A:Nat->Vec) (m:Nat) (h:Nat->Nat):Int:=det (m+1) (bv A m h)
def put (h:Nat->Nat) (r c:Nat):Nat->Nat:=λi=>if i=r then c else h i
theorem qL {i:Nat}(hi:i<m):bv A m h i=A (h i):=if_pos hi
theorem aHi:bv A m h m=unit m:=if_neg (kx _)
theorem wA {r c:Nat}(hr:r<m):bv A m (put h r c)=up (bv A m h) r (A c):=by
 funext i
 unfold bv put up
 by_cases e:i=r
 ·rw[if_pos e,if_pos e,if_pos (by omega)]
 ·rw[if_neg e,if_neg e]
structure Ok (A:Nat->Vec)(m N:Nat)(h:Nat->Nat):Prop where
 d0:0<dd A m h
 hN:∀i,i<m->h i<N
 ex:∀j,j<=N->∀c,dd A m h*A j c=sumN (m+1) λi=>R A m h i j*bv A m h i c
 b0:∀i,i<m->0<=R A m h i N
theorem dd_put {r c:Nat}(hr:r<m):dd A m (put h r c)=R A m h r c:=by unfold dd R;rw[wA hr]
theorem R_row {r c j:Nat}(hr:r<m):R A m (put h r c) r j=R A m h r j:=by unfold R;rw[wA hr,aKD]
theorem R_turn {r c i j:Nat}(k:Ok A m N h)(hr:r<m)(hi:i<=m)(hir:i≠r)(hj:j<=N):dd A m h*R A m (put h r c) i j=R A m h r c*R A m h i j - R A m h i c*R A m h r j:=by
 have hi':i<m+1:=by omega
 have e1:dd A m h*R A m (put h r c) i j=det (m+1) (up (up (bv A m h) r (A c)) i λq=>sumN (m+1) λk=>R A m h k j*bv A m h k q):=by
  have:(λq=>sumN (m+1) λk=>R A m h k j*bv A m h k q)=λq=>dd A m h*A j q:=by
   funext q
   rw[k.ex j hj q]
  rw[this,nV hi']
  unfold R
  rw[wA hr]
 rw[e1,oN hi',aAm (i:=i) (j:=r) hi' (by omega) hir λx hx h1 h2=>?_]
 ·have e2:up (up (bv A m h) r (A c)) i (bv A m h i)=up (bv A m h) r (A c):=by
   have:bv A m h i=up (bv A m h) r (A c) i:=(jO hir).symm
   rw[this,iF]
  have e3:det (m+1) (up (up (bv A m h) r (A c)) i (bv A m h r)) = - R A m h i c:=by
   rw[aDP (by omega) hi' (iw hir),iF]
   rfl
  rw[e2,e3]
  show R A m h i j*R A m h r c+R A m h r j*(- R A m h i c)=_
  rw[A1,de (R A m h i j),de (R A m h r j)]
  omega
 ·have:det (m+1) (up (up (bv A m h) r (A c)) i (bv A m h x))=0:=gO (i:=x) (j:=i) hx hi' h1 (by rw[jO h1,jO h2,eM])
  rw[this,fv]
def aKw (A:Nat->Vec) (m N:Nat) (h:Nat->Nat) (c r:Nat):Prop:=∀i,i<m->0<R A m h i c->R A m h r N*R A m h i c<=R A m h i N*R A m h r c/\(R A m h r N*R A m h i c=R A m h i N*R A m h r c->h r<=h i)
structure Stp (A:Nat->Vec)(m N:Nat)(h h':Nat->Nat)(c r:Nat):Prop where
 cN:c<N
 rm:r<m
 neg:R A m h m c<0
 fst:∀j,j<c->0<=R A m h m j
 pos:0<R A m h r c
 tig:aKw A m N h c r
 eq:h'=put h r c
theorem Ok.step {c r:Nat}(k:Ok A m N h)(s:Stp A m N h h' c r):Ok A m N h':=by
 obtain⟨cN,rm,neg,fst,pos,tig,rfl⟩:=s
 have ed:=dd_put (A:=A) (h:=h) (c:=c) rm
 refine⟨by rw[ed];exact pos,λi hi=>?_,λj hj q=>?_,λi hi=>?_⟩
 ·unfold put
  split
  ·exact cN
  ·exact k.hN i hi
 ·have d0:=k.d0
  refine vk (show dd A m h≠0 by omega) ?_
  rw[ed,<- sumN_mul]
  have e:sumN (m+1) (λi=>dd A m h*(R A m (put h r c) i j*bv A m (put h r c) i q))=sumN (m+1) (λi=>(R A m h r c*(R A m h i j*bv A m h i q)+(- R A m h r j)*(R A m h i c*bv A m h i q))+if i=r then R A m h r j*(dd A m h*A c q) else 0):=by
   refine sumN_congr λi hi=>?_
   by_cases ci:i=r
   ·subst ci
    rw[if_pos rfl,R_row rm,wA rm,eM,jv]
    rw[fk (dd A m h),fk (R A m h i c) (R A m h i j)]
    omega
   ·rw[if_neg ci,wA rm,jO ci,<- cv,R_turn k rm (by omega) ci hj,Int.sub_mul,cv,jv,de (R A m h i c) (R A m h r j),cv]
    omega
  rw[e,iY,iY,sumN_mul,sumN_mul,<- k.ex j hj q,<- k.ex c (by omega) q,gY (i:=r) (by omega) λx _ hx=>if_neg hx,if_pos rfl,jv,fk]
  omega
 ·by_cases ci:i=r
  ·subst ci
   rw[R_row rm]
   exact k.b0 i hi
  ·have e:=R_turn (c:=c) k rm (show i<=m by omega) ci (ba N)
   have d0:=k.d0
   have h1:=k.b0 i hi
   have h2:=k.b0 r rm
   have:0<=dd A m h*R A m (put h r c) i N:=by
    rw[e]
    by_cases cp:0<R A m h i c
    ·have:=(tig i hi cp).1
     rw[de (R A m h r c),de (R A m h i c)]
     omega
    ·have p1:0<=R A m h r c*R A m h i N:=iq (by omega) h1
     have p2:0<=(- R A m h i c)*R A m h r N:=iq (by omega) h2
     rw[jv] at p2
     omega
   exact Int.nonneg_of_mul_nonneg_right this d0
theorem Ok.held {i:Nat}(hi:i<m):R A m h m (h i)=0:=by
 unfold R
 refine gO (i:=i) (j:=m) (by omega) (by omega) (by omega) ?_
 rw[jO (by omega),eM,qL hi]
theorem aFg:det (m+1) (up (bv A m h) m (unit m))=dd A m h:=by
 have:unit m=bv A m h m:=aHi.symm
 rw[this,iF]
 rfl
theorem Ok.two {g:Nat->Nat}(k:Ok A m N h){s:Nat}(hs:s<=N):dd A m h*R A m g m s=sumN m (λi=>R A m h i s*R A m g m (h i))+R A m h m s*dd A m g:=by
 have e:dd A m h*R A m g m s=det (m+1) (up (bv A m g) m λq=>sumN (m+1) λk=>R A m h k s*bv A m h k q):=by
  have:(λq=>sumN (m+1) λk=>R A m h k s*bv A m h k q)=λq=>dd A m h*A s q:=by
   funext q
   rw[k.ex s hs q]
  rw[this,nV (by omega)]
  rfl
 rw[e,oN (by omega)]
 show sumN m _+R A m h m s*det (m+1) (up (bv A m g) m (bv A m h m))=_
 rw[aHi,aFg]
 congr 1
 refine sumN_congr λi hi=>?_
 rw[qL hi]
 rfl
theorem aAs {g:Nat->Nat}(e:∀i,i<m->h i=g i):bv A m h=bv A m g:=by
 funext i
 unfold bv
 split
 ·rename_i hi
  rw[e i hi]
 ·rfl
end
theorem aHt:∀(n:Nat) (f:Nat->Nat),(∀t,t<=n->f t<n)->∃a b,a<b/\b<=n/\f a=f b:=by
 intro n
 induction n with
 |zero=>intro f h;exact absurd (h 0 (ba _)) (by omega)
 |succ n ih=>
  intro f h
  by_cases c:∃t,t<n+1/\f t=f (n+1)
  ·obtain⟨t,ht,e⟩:=c
   exact⟨t,n+1,ht,ba _,e⟩
  ·have c':∀t,t<n+1->f t≠f (n+1):=λt ht e=>c ⟨t,ht,e⟩
   obtain⟨a,b,hab,hb,e⟩:=ih (λt=>if f t=n then f (n+1) else f t) λt ht=>by
    show(if f t=n then f (n+1) else f t)<n
    have h1:=h t (by omega)
    have h2:=h (n+1) (by omega)
    have h3:=c' t (by omega)
    split <;> omega
   refine⟨a,b,hab,by omega,?_⟩
   have ha:=c' a (by omega)
   have hb':=c' b (by omega)
   by_cases e1:f a=n
   ·by_cases e2:f b=n
    ·omega
    ·simp only[e1,e2,if_true,if_false] at e
     exact absurd e.symm hb'
   ·by_cases e2:f b=n
    ·simp only[e1,e2,if_true,if_false] at e
     exact absurd e ha
    ·simp only[e1,e2,if_false] at e
     exact e
def code (N:Nat) (h:Nat->Nat):Nat->Nat
 |0=>0
 |k+1=>code N h k*N+h k
theorem aCh {N:Nat}{h:Nat->Nat}:∀{m:Nat},(∀i,i<m->h i<N)->code N h m<N ^ m
 |0,_=>by simp[code]
 |m+1,k=>by
  have h1:=aCh (m:=m) λi hi=>k i (by omega)
  have h2:=k m (by omega)
  show code N h m*N+h m<N ^ m*N
  have:(code N h m+1)*N<=N ^ m*N:=yz N h1
  rw[AN] at this
  omega
theorem aAJ {N:Nat}{h g:Nat->Nat}:∀{m:Nat},(∀i,i<m->h i<N)->(∀i,i<m->g i<N)->code N h m=code N g m->∀i,i<m->h i=g i
 |0,_,_,_=>λi hi=>by omega
 |m+1,k,l,e=>by
  have h1:=k m (by omega)
  have h2:=l m (by omega)
  have e:code N h m*N+h m=code N g m*N+g m:=e
  have em:h m=g m:=by
   have:=congrArg (· % N) e
   simp only[Nat.mul_add_mod_self_right,Nat.mod_eq_of_lt h1,Nat.mod_eq_of_lt h2] at this
   exact this
  have ed:code N h m=code N g m:=Nat.eq_of_mul_eq_mul_right (show 0<N by omega) (show code N h m*N=code N g m*N by omega)
  intro i hi
  by_cases c:i=m
  ·rw[c];exact em
  ·exact aAJ (λi hi=>k i (by omega)) (λi hi=>l i (by omega)) ed i (by omega)
theorem change {f:Nat->Nat}{a:Nat}:∀{n:Nat},f (a+n)≠f a->∃u,a<=u/\u<a+n/\f u=f a/\f (u+1)≠f a
 |0,h=>absurd rfl h
 |n+1,h=>by
  by_cases c:f (a+n)=f a
  ·exact⟨a+n,by omega,by omega,c,h⟩
  ·obtain⟨u,h1,h2,h3,h4⟩:=change c
   exact⟨u,h1,by omega,h3,h4⟩
theorem aDq {f:Nat->Nat}{a:Nat}:∀{n:Nat},f (a+n)≠f a->∃u,a<=u/\u<a+n/\f u≠f (a+n)/\f (u+1)=f (a+n)
 |0,h=>absurd rfl h
 |n+1,h=>by
  by_cases c:f (a+n)=f (a+(n+1))
  ·rw[<- c] at h ⊢
   obtain⟨u,h1,h2,h3,h4⟩:=aDq h
   exact⟨u,h1,by omega,h3,h4⟩
  ·exact⟨a+n,by omega,by omega,c,rfl⟩
theorem iU {a b c d e f:Int}(hb:0<b)(hd:0<d)(hf:0<f)(h1:a*d<=c*b)(h2:c*f<=e*d):a*f<=e*b:=by
 have x1:=gs h1 (k4 hf)
 have x2:=gs h2 (k4 hb)
 refine Int.le_of_mul_le_mul_left (a:=d) ?_ hd
 have e1:d*(a*f)=a*d*f:=by rw[de a d,cv]
 have e2:d*(e*b)=e*d*b:=by rw[de e d,cv]
 have e3:c*b*f=c*f*b:=by rw[cv,de b f,<- cv]
 omega
section
variable {A:Nat->Vec}{m N:Nat}
theorem Ok.inj {h:Nat->Nat}(k:Ok A m N h){i j:Nat}(hi:i<m)(hj:j<m)(e:h i=h j):i=j:=by
 apply cz
 intro ne
 have:dd A m h=0:=gO (i:=i) (j:=j) (by omega) (by omega) ne (by rw[qL hi,qL hj,e])
 have:=k.d0
 omega
theorem aGX {h g:Nat->Nat}(e:∀i,i<m->h i=g i)(i j:Nat):R A m h i j=R A m g i j:=by unfold R;rw[aAs e]
theorem aDT {h g:Nat->Nat}(e:∀i,i<m->h i=g i):dd A m h=dd A m g:=by unfold dd;rw[aAs e]
theorem Stp.worth {h h':Nat->Nat}{c r:Nat}(k:Ok A m N h)(s:Stp A m N h h' c r):dd A m h*R A m h' m N=dd A m h'*R A m h m N - R A m h m c*R A m h r N:=by
 obtain⟨cN,rm,neg,fst,pos,tig,rfl⟩:=s
 rw[dd_put rm,R_turn k rm (ba _) (by omega) (ba _)]
theorem Stp.zero {h h':Nat->Nat}{c r:Nat}(k:Ok A m N h)(s:Stp A m N h h' c r)(z:R A m h r N=0){i:Nat}(hi:i<m):R A m h' i N=0↔R A m h i N=0:=by
 obtain⟨cN,rm,neg,fst,pos,tig,rfl⟩:=s
 by_cases c1:i=r
 ·subst c1;rw[R_row rm]
 ·have e:=R_turn (c:=c) k rm (show i<=m by omega) c1 (ba N)
  rw[z,fv,Int.sub_zero] at e
  have d0:=k.d0
  constructor
  ·intro z'
   rw[z',fv] at e
   rcases Int.mul_eq_zero.1 e.symm with q | q
   ·omega
   ·exact q
  ·intro z'
   rw[z',fv] at e
   rcases Int.mul_eq_zero.1 e with q | q
   ·omega
   ·exact q
structure Circ (A:Nat->Vec)(m N:Nat)(h:Nat->Nat->Nat)(c r:Nat->Nat)(n:Nat):Prop where
 ok:∀t,Ok A m N (h t)
 st:∀t,t<n->Stp A m N (h t) (h (t+1)) (c t) (r t)
 cl:∀i,i<m->h n i=h 0 i
 n0:0<n
variable {h:Nat->Nat->Nat}{c r:Nat->Nat}{n:Nat}
theorem Circ.le (k:Circ A m N h c r n):∀{t:Nat},t<=n->R A m (h 0) m N*dd A m (h t)<=R A m (h t) m N*dd A m (h 0)
 |0,_=>qy _
 |t+1,ht=>by
  have ih:=Circ.le k (t:=t) (by omega)
  refine iU (k.ok 0).d0 (k.ok t).d0 (k.ok (t+1)).d0 ih ?_
  have s:=k.st t (by omega)
  have e:=s.worth (k.ok t)
  have p:0<=(- R A m (h t) m (c t))*R A m (h t) (r t) N:=iq (by have:=s.neg;omega) ((k.ok t).b0 _ s.rm)
  rw[jv] at p
  rw[de (R A m (h (t+1)) m N),de (R A m (h t) m N)]
  omega
theorem Circ.ge (k:Circ A m N h c r n):∀{j t:Nat},t+j=n->R A m (h t) m N*dd A m (h 0)<=R A m (h 0) m N*dd A m (h t)
 |0,t,e=>by
  have e:t=n:=e
  subst e
  rw[aGX k.cl,aDT k.cl]
  exact qy _
 |j+1,t,e=>by
  have ih:=Circ.ge k (j:=j) (t:=t+1) (by omega)
  refine iU (k.ok t).d0 (k.ok (t+1)).d0 (k.ok 0).d0 ?_ ih
  have s:=k.st t (by omega)
  have e:=s.worth (k.ok t)
  have p:0<=(- R A m (h t) m (c t))*R A m (h t) (r t) N:=iq (by have:=s.neg;omega) ((k.ok t).b0 _ s.rm)
  rw[jv] at p
  rw[de (R A m (h (t+1)) m N),de (R A m (h t) m N)]
  omega
theorem Circ.still (k:Circ A m N h c r n){t:Nat}(ht:t<n):R A m (h t) (r t) N=0:=by
 have s:=k.st t ht
 have e:=s.worth (k.ok t)
 have l:=iU (k.ok (t+1)).d0 (k.ok 0).d0 (k.ok t).d0 (k.ge (j:=n - (t+1)) (t:=t+1) (by omega)) (k.le (t:=t) (by omega))
 have z:(- R A m (h t) m (c t))*R A m (h t) (r t) N<=0:=by
  rw[jv]
  rw[de (R A m (h (t+1)) m N),de (R A m (h t) m N)] at l
  omega
 have n1:=s.neg
 have b:=(k.ok t).b0 _ s.rm
 apply cz
 intro ne
 have:0<(- R A m (h t) m (c t))*R A m (h t) (r t) N:=o9 (by omega) (by omega)
 omega
theorem Circ.zero0 (k:Circ A m N h c r n){i:Nat}(hi:i<m):∀{t:Nat},t<=n->(R A m (h t) i N=0↔R A m (h 0) i N=0)
 |0,_=>Iff.rfl
 |t+1,ht=>((k.st t (by omega)).zero (k.ok t) (k.still (by omega)) hi).trans (Circ.zero0 k hi (by omega))
theorem Stp.same {h h':Nat->Nat}{c r i:Nat}(s:Stp A m N h h' c r)(ne:h' i≠h i):i=r/\h' i=c:=by
 rw[s.eq] at ne ⊢
 unfold put at ne ⊢
 by_cases q:i=r
 ·rw[if_pos q];exact⟨q,rfl⟩
 ·rw[if_neg q] at ne;exact absurd rfl ne
theorem Stp.new {h h':Nat->Nat}{c r i:Nat}(s:Stp A m N h h' c r)(hi:i<m):h i≠c:=λe=>by
 have:=s.neg
 rw[<- e,Ok.held hi] at this
 omega
theorem Stp.at_r {h h':Nat->Nat}{c r:Nat}(s:Stp A m N h h' c r):h' r=c:=by rw[s.eq];exact if_pos rfl
theorem Circ.comes (k:Circ A m N h c r n){i s t:Nat}(hi:i<m)(hs:s<=n)(ht:t<=n)(ne:h t i≠h s i):∃u,u<n/\i=r u/\c u=h s i:=by
 have g:∀a b,a<=b->b<=n->h b i≠h a i->∃u,a<=u/\u<b/\i=r u/\c u=h b i:=λa b hab hb ne=>by
  obtain⟨d,rfl⟩:∃d,b=a+d:=⟨b - a,by omega⟩
  obtain⟨u,h1,h2,h3,h4⟩:=aDq (f:=λx=>h x i) ne
  obtain⟨e1,e2⟩:=(k.st u (by omega)).same (i:=i) (by
   show h (u+1) i≠h u i
   have h3:h u i≠h (a+d) i:=h3
   have h4:h (u+1) i=h (a+d) i:=h4
   rw[h4];exact iw h3)
  exact⟨u,h1,h2,e1,by rw[<- e2];exact h4⟩
 by_cases c1:h s i=h 0 i
 ·rcases AG 0 t with _ | _
  ·obtain⟨u,_,h2,h3,h4⟩:=g t n ht (ba _) (by rw[k.cl i hi,<- c1];exact iw ne)
   exact⟨u,h2,h3,by rw[h4,k.cl i hi,c1]⟩
  ·obtain rfl:t=0:=by omega
   exact absurd c1.symm ne
 ·obtain⟨u,_,h2,h3,h4⟩:=g 0 s (av _) hs c1
  exact⟨u,by omega,h3,h4⟩
theorem aLn (f:Nat->Nat):∀{n:Nat},0<n->∃t,t<n/\∀u,u<n->f u<=f t
 |0,h=>absurd h (by omega)
 |1,_=>⟨0,by omega,λu hu=>by obtain rfl:u=0:=(by omega);exact ba _⟩
 |n+2,_=>by
  obtain⟨t,ht,h⟩:=aLn f (n:=n+1) (by omega)
  by_cases c:f (n+1)<=f t
  ·exact⟨t,by omega,λu hu=>by
    by_cases e:u=n+1
    ·rw[e];exact c
    ·exact h u (by omega)⟩
  ·exact⟨n+1,by omega,λu hu=>by
    by_cases e:u=n+1
    ·rw[e];exact ba _
    ·have:=h u (by omega);omega⟩
theorem Circ.none (k:Circ A m N h c r n):False:=by
 obtain⟨t,ht,top⟩:=aLn c k.n0
 have st:=k.st t ht
 have e1:h (t+1) (r t)=c t:=st.at_r
 have e0:h t (r t)≠c t:=st.new st.rm
 obtain⟨s,hs,es,eo⟩:∃s,s<n/\r t=r s/\h s (r t)=c t:=by
  by_cases q:h n (r t)=c t
  ·have q0:h 0 (r t)=c t:=by rw[<- k.cl _ st.rm];exact q
   have:h (0+t) (r t)≠h 0 (r t):=by
    rw[Nat.zero_add,q0];exact e0
   obtain⟨u,h1,h2,h3,h4⟩:=change (f:=λx=>h x (r t)) (a:=0) (n:=t) this
   have h3:h u (r t)=h 0 (r t):=h3
   have h4:h (u+1) (r t)≠h 0 (r t):=h4
   obtain⟨x1,_⟩:=(k.st u (by omega)).same (i:=r t) (by rw[h3];exact h4)
   exact⟨u,by omega,x1,by rw[h3,q0]⟩
  ·obtain⟨d,hd⟩:∃d,n=t+1+d:=⟨n - (t+1),by omega⟩
   have:h (t+1+d) (r t)≠h (t+1) (r t):=by
    rw[<- hd,e1];exact q
   obtain⟨u,h1,h2,h3,h4⟩:=change (f:=λx=>h x (r t)) (a:=t+1) (n:=d) this
   have h3:h u (r t)=h (t+1) (r t):=h3
   have h4:h (u+1) (r t)≠h (t+1) (r t):=h4
   obtain⟨x1,_⟩:=(k.st u (by omega)).same (i:=r t) (by rw[h3];exact h4)
   exact⟨u,by omega,x1,by rw[h3,e1]⟩
 have ss:=k.st s hs
 have rs:h s (r s)=c t:=by rw[<- es];exact eo
 have lt:c s<c t:=by
  have:=top s hs
  have:c s≠c t:=λe=>ss.new ss.rm (rs.trans e.symm)
  omega
 have two:=(k.ok s).two (g:=h t) (s:=c s) (by have:=ss.cN;omega)
 have z1:0<=dd A m (h s)*R A m (h t) m (c s):=iq (k4 (k.ok s).d0) (st.fst _ lt)
 have z2:0<(- R A m (h s) m (c s))*dd A m (h t):=o9 (by have:=ss.neg;omega) (k.ok t).d0
 rw[jv] at z2
 obtain⟨i,hi,pos⟩:=aAv (n:=m) (f:=λi=>R A m (h s) i (c s)*R A m (h t) m (h s i)) (by omega)
 have pos:0<R A m (h s) i (c s)*R A m (h t) m (h s i):=pos
 have ne:h t i≠h s i:=λe=>by
  rw[<- e,Ok.held hi,fv] at pos
  omega
 obtain⟨u,hu,iu,cu⟩:=k.comes hi (ig hs) (ig ht) ne
 have le:h s i<=c t:=by rw[<- cu];exact top u hu
 by_cases eq:h s i=c t
 ·have:i=r s:=(k.ok s).inj hi ss.rm (by rw[eq,rs])
  subst this
  rw[eq] at pos
  have p:=ss.pos
  have q:0<R A m (h s) (r s) (c s)*(- R A m (h t) m (c t)):=o9 p (by have:=st.neg;omega)
  rw[A1] at q
  omega
 ·have p0:=st.fst (h s i) (by omega)
  have p1:0<R A m (h s) i (c s):=by
   apply cz
   intro no
   have:0<=(- R A m (h s) i (c s))*R A m (h t) m (h s i):=iq (by omega) p0
   rw[jv] at this
   omega
  have zi:R A m (h s) i N=0:=by
   rw[k.zero0 hi (ig hs),<- k.zero0 hi (ig hu),iu]
   exact k.still hu
  have zr:=k.still hs
  have:=(ss.tig i hi p1).2 (by rw[zi,zr,pw,pw])
  rw[rs] at this
  omega
theorem aIC (ok:∀t,Ok A m N (h t))(st:∀t,Stp A m N (h t) (h (t+1)) (c t) (r t)):False:=by
 obtain⟨a,b,hab,_,e⟩:=aHt (N ^ m) (λt=>code N (h t) m) λt _=>aCh (ok t).hN
 have e:=aAJ (ok a).hN (ok b).hN e
 refine Circ.none (A:=A) (m:=m) (N:=N) (h:=λt=>h (a+t)) (c:=λt=>c (a+t)) (r:=λt=>r (a+t)) (n:=b - a) ⟨λt=>ok _,λt _=>st _,λi hi=>?_,by omega⟩
 show h (a+(b - a)) i=h (a+0) i
 rw[show a+(b - a)=b by omega]
 exact(e i hi).symm
def Nxt (A:Nat->Vec) (m N:Nat) (h' h:Nat->Nat):Prop:=∃c r,Stp A m N h h' c r
theorem Ok.acc {h:Nat->Nat}(k:Ok A m N h):Acc (Nxt A m N) h:=by
 apply cz
 intro na
 let S:={ g:Nat->Nat // Ok A m N g/\¬ Acc (Nxt A m N) g }
 have nx:∀x:S,∃y:S,∃c r,Stp A m N x.1 y.1 c r:=λx=>by
  apply cz
  intro no
  refine x.2.2 (Acc.intro _ λy ⟨c,r,s⟩=>?_)
  apply cz
  intro ny
  exact no ⟨⟨y,x.2.1.step s,ny⟩,c,r,s⟩
 have nx2:∀x:S,∃q:S×Nat×Nat,Stp A m N x.1 q.1.1 q.2.1 q.2.2:=λx=>let⟨y,c,r,s⟩:=nx x;⟨(y,c,r),s⟩
 let f:S->S×Nat×Nat:=λx=>Classical.choose (nx2 x)
 have hf:∀x:S,Stp A m N x.1 (f x).1.1 (f x).2.1 (f x).2.2:=λx=>Classical.choose_spec (nx2 x)
 let sq:Nat->S:=λt=>Nat.rec ⟨h,k,na⟩ (λ_ x=>(f x).1) t
 exact aIC (h:=λt=>(sq t).1) (c:=λt=>(f (sq t)).2.1) (r:=λt=>(f (sq t)).2.2) (λt=>(sq t).2.1) λt=>hf (sq t)
end
theorem sumN_le {f g:Nat->Int}{n:Nat}(h:∀k,k<n->f k<=g k):sumN n f<=sumN n g:=by
 induction n with
 |zero=>exact qy _
 |succ n ih=>
  have h1:=ih λk hk=>h k (by omega)
  have h2:=h n (by omega)
  show sumN n f+f n<=sumN n g+g n
  omega
theorem vH {f:Nat->Nat->Int}{a:Nat}:∀b:Nat,sumN a (λi=>sumN b λj=>f i j)=sumN b λj=>sumN a λi=>f i j
 |0=>kG λ_ _=>rfl
 |b+1=>by
  show sumN a (λi=>sumN b (λj=>f i j)+f i b)=sumN b (λj=>sumN a λi=>f i j)+sumN a λi=>f i b
  rw[iY,vH b]
theorem aBA {B X:Int}(hB:0<=B)(hX:0<=X){L:Nat}(hL:(L:Int)*B<=X):∀{M:Nat}{b:Tup},M<=L->(∀k r,-B<=b k r/\b k r<=B)->-(X ^ M)<=det M b/\det M b<=X ^ M:=by
 intro M
 induction M with
 |zero=>intro b _ _;simp[det]
 |succ M ih=>
  intro b hM hb
  have key:∀i,-(B*X ^ M)<=sg (i+M)*(b i M*det M (skip i b))/\sg (i+M)*(b i M*det M (skip i b))<=B*X ^ M:=λi=>by
   have h1:=ih (b:=skip i b) (by omega) λk r=>by unfold skip;split <;> exact hb _ _
   have h2:=hb i M
   generalize det M (skip i b)=d at *
   generalize b i M=e at *
   generalize X ^ M=Y at *
   have a1:d.natAbs<=Y.toNat:=by omega
   have a2:e.natAbs<=B.toNat:=by omega
   have a3:(e*d).natAbs<=(B*Y).toNat:=by
    rw[vj]
    have:B.toNat*Y.toNat=(B*Y).toNat:=by
     rw[<- Int.toNat_mul] <;> omega
    rw[<- this]
    exact Nat.mul_le_mul a2 a1
   have a4:0<=B*Y:=iq hB (by omega)
   unfold sg
   split <;> omega
  have s1:sumN (M+1) (λi=>sg (i+M)*(b i M*det M (skip i b)))<=sumN (M+1) λ_=>B*X ^ M:=sumN_le λi _=>(key i).2
  have s2:sumN (M+1) (λ_=>-(B*X ^ M))<=sumN (M+1) λi=>sg (i+M)*(b i M*det M (skip i b)):=sumN_le λi _=>(key i).1
  have cs:∀(y:Int) (n:Nat),sumN n (λ_=>y)=(n:Int)*y:=λy n=>by
   induction n with
   |zero=>simp[sumN]
   |succ n ih=>show sumN n (λ_=>y)+y=_;rw[ih,Int.natCast_add,ui];omega
  rw[cs] at s1 s2
  have p:0<=X ^ M:=Int.pow_nonneg hX
  have t:((M+1:Nat):Int)*(B*X ^ M)<=X ^ (M+1):=by
   rw[<- cv,Int.pow_succ,de (X ^ M)]
   refine gs (Int.le_trans (gs ?_ hB) hL) p
   omega
  rw[A1] at s2
  show -(X ^ (M+1))<=sumN (M+1) _/\sumN (M+1) _<=X ^ (M+1)
  omega
section
variable {m k:Nat}{co:Nat->Nat->Int}{ob wy:Nat->Int}
def A0 (m k:Nat) (co:Nat->Nat->Int) (ob wy:Nat->Int):Nat->Vec:=λj c=>if j<k then(if c<m then co j c else if c=m then ob j else 0) else if j<k+m then(if c=j - k then 1 else 0) else if c<m then wy c else 0
theorem A0_slack {p:Nat}(hp:p<m):(A0 m k co ob wy) (k+p)=unit p:=by
 funext c
 unfold A0 unit
 rw[if_neg (by omega),if_pos (by omega),show k+p - k=p by omega]
theorem A0_step {j c:Nat}(hj:j<k)(hc:c<m):(A0 m k co ob wy) j c=co j c:=by unfold A0;rw[if_pos hj,if_pos hc]
theorem A0_ob {j:Nat}(hj:j<k):(A0 m k co ob wy) j m=ob j:=by unfold A0;rw[if_pos hj,if_neg (by omega),if_pos rfl]
theorem A0_wy {c:Nat}(hc:c<m):(A0 m k co ob wy) (k+m) c=wy c:=by unfold A0;rw[if_neg (by omega),if_neg (by omega),if_pos hc]
theorem A0_w0:(A0 m k co ob wy) (k+m) m=0:=by unfold A0;rw[if_neg (by omega),if_neg (by omega),if_neg (by omega)]
theorem A0_out {j c:Nat}(hc:m<c):(A0 m k co ob wy) j c=0:=by
 unfold A0
 split
 ·rw[if_neg (by omega),if_neg (by omega)]
 ·split
  ·rw[if_neg (by omega)]
  ·rw[if_neg (by omega)]
def h0 (k:Nat):Nat->Nat:=λi=>k+i
theorem bv0 {i:Nat}(hi:i<=m):bv (A0 m k co ob wy) m (h0 k) i=unit i:=by
 unfold bv
 split
 ·rename_i h;exact A0_slack h
 ·rw[show i=m by omega]
theorem yG {v:Vec}{n:Nat}(h:∀c,n<=c->v c=0):v=λc=>sumN n λp=>v p*unit p c:=by
 funext c
 by_cases hc:c<n
 ·rw[gY hc λp _ hne=>by show v p*(if c=p then 1 else 0)=0;rw[if_neg (iw hne),fv]]
  show v c=v c*(if c=c then 1 else 0)
  rw[if_pos rfl,kl]
 ·rw[h c (by omega),kG λp hp=>by show v p*(if c=p then 1 else 0)=0;rw[if_neg (by omega),fv]]
theorem dd0:dd (A0 m k co ob wy) m (h0 k)=1:=by
 unfold dd
 rw[yA (b':=unit) λi hi=>bv0 (by omega),aAH]
theorem R0 {i j:Nat}(hi:i<=m):R (A0 m k co ob wy) m (h0 k) i j=(A0 m k co ob wy) j i:=by
 unfold R
 rw[yG (v:=(A0 m k co ob wy) j) (n:=m+1) λc hc=>A0_out (by omega),oN (by omega),gY (i:=i) (by omega) λp hp hne=>?_]
 ·have:up (bv (A0 m k co ob wy) m (h0 k)) i (unit i)=bv (A0 m k co ob wy) m (h0 k):=by
   have e:unit i=bv (A0 m k co ob wy) m (h0 k) i:=(bv0 hi).symm
   rw[e,iF]
  rw[this]
  have:det (m+1) (bv (A0 m k co ob wy) m (h0 k))=1:=dd0
  rw[this,kl]
  show _=sumN (m+1) λp=>(A0 m k co ob wy) j p*unit p i
  rw[gY (i:=i) (by omega) λp _ hne=>by show(A0 m k co ob wy) j p*(if i=p then 1 else 0)=0;rw[if_neg (iw hne),fv]]
  show _=(A0 m k co ob wy) j i*(if i=i then 1 else 0)
  rw[if_pos rfl,kl]
 ·rw[gO (i:=p) (j:=i) (by omega) (by omega) hne (by rw[jO hne,eM,bv0 (by omega)]),fv]
theorem ok0 (hw:∀p,p<m->0<=wy p):Ok (A0 m k co ob wy) m (k+m) (h0 k):=by
 refine⟨by rw[dd0];decide,λi hi=>by show k+i<k+m;omega,λj hj c=>?_,λi hi=>?_⟩
 ·rw[dd0,uj]
  have e:=congrFun (yG (v:=(A0 m k co ob wy) j) (n:=m+1) λc hc=>A0_out (by omega)) c
  rw[e]
  refine sumN_congr λp hp=>?_
  rw[R0 (by omega),bv0 (by omega)]
 ·rw[R0 (by omega),A0_wy hi];exact hw i hi
def zz (m:Nat) (x:Nat->Int) (v:Vec):Int:=v m+sumN m λp=>x p*v p
theorem aJa {x a:Nat->Int}{w:Nat->Vec}(n:Nat):zz m x (λc=>sumN n λi=>a i*w i c)=sumN n λi=>a i*zz m x (w i):=by
 unfold zz
 have e:(λp=>x p*sumN n λi=>a i*w i p)=λp=>sumN n λi=>a i*(x p*w i p):=by
  funext p
  rw[<- sumN_mul]
  exact sumN_congr λi _=>fk ..
 rw[e,vH]
 have e2:(λi=>a i*(w i m+sumN m λp=>x p*w i p))=λi=>a i*w i m+sumN m λp=>a i*(x p*w i p):=by
  funext i
  rw[qx,sumN_mul]
 rw[e2,iY]
theorem unb {h:Nat->Nat}{c:Nat}{x:Nat->Int}(ok:Ok (A0 m k co ob wy) m (k+m) h)(hx:∀p,p<m->0<=x p)(hz:∀j,j<k->0<=ob j+sumN m λp=>x p*co j p)(hc:c<k+m)(neg:R (A0 m k co ob wy) m h m c<0):∃i,i<m/\0<R (A0 m k co ob wy) m h i c:=by
 have zc:∀j,j<k+m->0<=zz m x ((A0 m k co ob wy) j):=λj hj=>by
  unfold zz
  by_cases q:j<k
  ·rw[A0_ob q,sumN_congr (g:=λp=>x p*co j p) λp hp=>by rw[A0_step q hp]]
   exact hz j q
  ·obtain⟨p,rfl⟩:∃p,j=k+p:=⟨j - k,by omega⟩
   rw[A0_slack (by omega)]
   have:0<=sumN m λq=>x q*unit p q:=oP λq hq=>iq (hx q hq) (by unfold unit;split <;> decide)
   have:unit p m=0:=if_neg (by omega)
   omega
 have e:dd (A0 m k co ob wy) m h*zz m x ((A0 m k co ob wy) c)=sumN (m+1) λi=>R (A0 m k co ob wy) m h i c*zz m x (bv (A0 m k co ob wy) m h i):=by
  rw[<- aJa]
  have:(λq=>sumN (m+1) λi=>R (A0 m k co ob wy) m h i c*bv (A0 m k co ob wy) m h i q)=λq=>dd (A0 m k co ob wy) m h*(A0 m k co ob wy) c q:=by
   funext q
   rw[ok.ex c (by omega) q]
  rw[this]
  unfold zz
  rw[qx,<- sumN_mul]
  congr 1
  exact sumN_congr λp _=>fk ..
 have e2:sumN (m+1) (λi=>R (A0 m k co ob wy) m h i c*zz m x (bv (A0 m k co ob wy) m h i))=sumN m (λi=>R (A0 m k co ob wy) m h i c*zz m x ((A0 m k co ob wy) (h i)))+R (A0 m k co ob wy) m h m c:=by
  show sumN m _+R (A0 m k co ob wy) m h m c*zz m x (bv (A0 m k co ob wy) m h m)=_
  have:zz m x (bv (A0 m k co ob wy) m h m)=1:=by
   rw[aHi]
   unfold zz
   rw[kG λp hp=>by show x p*(if p=m then 1 else 0)=0;rw[if_neg (by omega),fv]]
   show(if m=m then(1:Int) else 0)+0=1
   rw[if_pos rfl]
   rfl
  rw[this,kl]
  congr 1
  exact sumN_congr λi hi=>by rw[qL hi]
 have p:0<=dd (A0 m k co ob wy) m h*zz m x ((A0 m k co ob wy) c):=iq (k4 ok.d0) (zc c hc)
 obtain⟨i,hi,pos⟩:=aAv (n:=m) (f:=λi=>R (A0 m k co ob wy) m h i c*zz m x ((A0 m k co ob wy) (h i))) (by omega)
 refine⟨i,hi,?_⟩
 have zi:=zc (h i) (ok.hN i hi)
 have pos:0<R (A0 m k co ob wy) m h i c*zz m x ((A0 m k co ob wy) (h i)):=pos
 apply cz
 intro no
 have:0<=(- R (A0 m k co ob wy) m h i c)*zz m x ((A0 m k co ob wy) (h i)):=iq (by omega) zi
 rw[jv] at this
 omega
theorem last {h:Nat->Nat}{j:Nat}:R (A0 m k co ob wy) m h m j=(sumN m λp=>(A0 m k co ob wy) j p*R (A0 m k co ob wy) m h m (k+p))+(A0 m k co ob wy) j m*dd (A0 m k co ob wy) m h:=by
 have e:R (A0 m k co ob wy) m h m j=det (m+1) (up (bv (A0 m k co ob wy) m h) m λc=>sumN (m+1) λp=>(A0 m k co ob wy) j p*unit p c):=by
  rw[<- yG (v:=(A0 m k co ob wy) j) (n:=m+1) λc hc=>A0_out (by omega)]
  rfl
 rw[e,oN (by omega)]
 show sumN m _+(A0 m k co ob wy) j m*det (m+1) (up (bv (A0 m k co ob wy) m h) m (unit m))=_
 rw[aFg]
 congr 1
 refine sumN_congr λp hp=>?_
 unfold R
 rw[A0_slack hp]
theorem last_step {h:Nat->Nat}{j:Nat}(hj:j<k):R (A0 m k co ob wy) m h m j=(sumN m λp=>co j p*R (A0 m k co ob wy) m h m (k+p))+ob j*dd (A0 m k co ob wy) m h:=by
 rw[last,A0_ob hj]
 congr 1
 exact sumN_congr λp hp=>by rw[A0_step hj hp]
theorem last_worth {h:Nat->Nat}:R (A0 m k co ob wy) m h m (k+m)=sumN m λp=>wy p*R (A0 m k co ob wy) m h m (k+p):=by
 rw[last,A0_w0,pw,yo]
 exact sumN_congr λp hp=>by rw[A0_wy hp]
theorem held_way {h:Nat->Nat}(ok:Ok (A0 m k co ob wy) m (k+m) h){p:Nat}(hp:p<m):dd (A0 m k co ob wy) m h*wy p=sumN m λi=>R (A0 m k co ob wy) m h i (k+m)*(A0 m k co ob wy) (h i) p:=by
 have e:=ok.ex (k+m) (ba _) p
 rw[A0_wy hp] at e
 rw[e]
 show sumN m _+R (A0 m k co ob wy) m h m (k+m)*bv (A0 m k co ob wy) m h m p=_
 rw[aHi,show unit m p=0 from if_neg (by omega),fv,yo]
 exact sumN_congr λi hi=>by rw[qL hi]
theorem held_worth {h:Nat->Nat}(ok:Ok (A0 m k co ob wy) m (k+m) h):R (A0 m k co ob wy) m h m (k+m)+(sumN m λi=>R (A0 m k co ob wy) m h i (k+m)*(A0 m k co ob wy) (h i) m)=0:=by
 have e:=ok.ex (k+m) (ba _) m
 rw[A0_w0,fv] at e
 have e:0=sumN m (λi=>R (A0 m k co ob wy) m h i (k+m)*bv (A0 m k co ob wy) m h i m)+R (A0 m k co ob wy) m h m (k+m)*bv (A0 m k co ob wy) m h m m:=e
 rw[aHi,show unit m m=1 from if_pos rfl,kl,sumN_congr (g:=λi=>R (A0 m k co ob wy) m h i (k+m)*(A0 m k co ob wy) (h i) m) λi hi=>by rw[qL hi]] at e
 omega
theorem no_opp {h:Nat->Nat}(ok:Ok (A0 m k co ob wy) m (k+m) h){i j:Nat}(hi:i<m)(hj:j<m)(e:∀c,(A0 m k co ob wy) (h i) c = -1*(A0 m k co ob wy) (h j) c)(hij:i≠j):False:=by
 have:dd (A0 m k co ob wy) m h=0:=by
  unfold dd
  have:bv (A0 m k co ob wy) m h=up (bv (A0 m k co ob wy) m h) i (λc=>-1*bv (A0 m k co ob wy) m h j c):=by
   have:(λc=>-1*bv (A0 m k co ob wy) m h j c)=bv (A0 m k co ob wy) m h i:=by
    funext c
    rw[qL hi,qL hj,e c]
   rw[this,iF]
  rw[this,nV (by omega),gO (i:=i) (j:=j) (by omega) (by omega) hij (by rw[eM,jO (iw hij)]),fv]
 have:=ok.d0
 omega
theorem R_bound {h:Nat->Nat}{i j:Nat}(hm:m<=15)(hc:∀j c,-2<=co j c/\co j c<=2)(ho:∀j,-2<=ob j/\ob j<=2)(hw:∀p,0<=wy p/\wy p<=1000000):(R (A0 m k co ob wy) m h i j).natAbs<2 ^ 400:=by
 have ha:∀j c,-1000000<=(A0 m k co ob wy) j c/\(A0 m k co ob wy) j c<=1000000:=λj c=>by
  unfold A0
  have h1:=hc j c
  have h2:=ho j
  have h3:=hw c
  repeat' split
  all_goals omega
 have hb:∀(v:Nat->Nat->Int),(∀a c,-1000000<=v a c/\v a c<=1000000)->(det (m+1) v).natAbs<2 ^ 400:=λv hv=>by
  have:=aBA (B:=1000000) (X:=16777216) (L:=16) (by decide) (by decide) (by decide) (M:=m+1) (b:=v) (by omega) hv
  have p:(16777216:Nat) ^ (m+1)<2 ^ 400:=bo (br (by decide) (show m+1<=16 by omega)) (by
   rw[show(16777216:Nat)=2 ^ 24 from rfl,<- Nat.pow_mul]
   exact Nat.pow_lt_pow_right (by decide) (by decide))
  have q:(16777216:Int) ^ (m+1)=((16777216 ^ (m+1):Nat):Int):=(Int.natCast_pow 16777216 (m+1)).symm
  rw[q] at this
  generalize (16777216:Nat) ^ (m+1)=y at *
  generalize (2:Nat) ^ 400=z at *
  omega
 unfold R
 refine hb _ λa c=>?_
 unfold up bv unit
 split
 ·exact ha _ _
 ·split
  ·exact ha _ _
  ·show -1000000<=(if c=m then(1:Int) else 0)/\(if c=m then(1:Int) else 0)<=1000000
   split <;> decide
theorem dd_bound {h:Nat->Nat}(hm:m<=15)(hc:∀j c,-2<=co j c/\co j c<=2)(ho:∀j,-2<=ob j/\ob j<=2)(hw:∀p,0<=wy p/\wy p<=1000000):(dd (A0 m k co ob wy) m h).natAbs<2 ^ 400:=by
 by_cases m0:0<m
 ·have:dd (A0 m k co ob wy) m h=R (A0 m k co ob wy) m h 0 (h 0):=by unfold dd R;rw[<- qL (A:=(A0 m k co ob wy)) (h:=h) m0,iF]
  rw[this]
  exact R_bound hm hc ho hw
 ·obtain rfl:m=0:=by omega
  have:dd (A0 0 k co ob wy) 0 h=1:=by
   unfold dd
   rw[yA (b':=unit) λi hi=>by obtain rfl:i=0:=(by omega);exact aHi,aAH]
  rw[this]
  exact Nat.one_lt_two_pow (by decide)
end
def Rem (A:Nat->Vec) (m N:Nat):Nat->(Nat->Nat)->Prop
 |0,h=>∀h',¬ Nxt A m N h' h
 |k+1,h=>∀h',Nxt A m N h' h->Rem A m N k h'
section
variable {A:Nat->Vec}{m N:Nat}
theorem Rem.up:∀{k:Nat}{h:Nat->Nat},Rem A m N k h->Rem A m N (k+1) h
 |0,_,r=>λh' n=>absurd n (r h')
 |_+1,_,r=>λh' n=>Rem.up (r h' n)
theorem Rem.ups {k:Nat}{h:Nat->Nat}(r:Rem A m N k h):∀d:Nat,Rem A m N (k+d) h
 |0=>r
 |d+1=>(r.ups d).up
theorem bnd {P:Nat->Nat->Prop}(up:∀x k d,P x k->P x (k+d)):∀M:Nat,(∀x,x<M->∃k,P x k)->∃k,∀x,x<M->P x k
 |0,_=>⟨0,λx h=>by omega⟩
 |M+1,h=>by
  obtain⟨k,hk⟩:=bnd up M λx hx=>h x (by omega)
  obtain⟨l,hl⟩:=h M (by omega)
  refine⟨k+l,λx hx=>?_⟩
  by_cases c:x=M
  ·subst c;rw[Nat.add_comm];exact up _ _ _ hl
  ·exact up _ _ _ (hk x (by omega))
theorem Ok.rem {h:Nat->Nat}(k:Ok A m N h):∃j,Rem A m N j h:=by
 have a:=k.acc
 induction a with
 |intro h _ ih=>
  have h1:∀c,c<N->∃j,∀r,r<m->Stp A m N h (put h r c) c r->Rem A m N j (put h r c):=λc _=>
   bnd (P:=λr j=>Stp A m N h (put h r c) c r->Rem A m N j (put h r c)) (λr j d q s=>(q s).ups d) m λr _=>by
    by_cases s:Stp A m N h (put h r c) c r
    ·obtain⟨j,hj⟩:=ih _ ⟨c,r,s⟩ (k.step s)
     exact⟨j,λ_=>hj⟩
    ·exact⟨0,λz=>absurd z s⟩
  obtain⟨j,hj⟩:=bnd (P:=λc j=>∀r,r<m->Stp A m N h (put h r c) c r->Rem A m N j (put h r c)) (λc j d q r hr s=>(q r hr s).ups d) N h1
  refine⟨j+1,λh' ⟨c,r,s⟩=>?_⟩
  have e:=s.eq
  subst e
  exact hj c s.cN r s.rm s
def Le (x y:Nat->Int) (hd:Nat->Nat) (a b:Nat):Prop:=x a*y b<=x b*y a/\(x a*y b=x b*y a->hd a<=hd b)
theorem Le.refl (x y:Nat->Int)(hd:Nat->Nat)(a:Nat):Le x y hd a a:=⟨qy _,λ_=>ba _⟩
theorem Le.trans {x y:Nat->Int}{hd:Nat->Nat}{a b c:Nat}(ha:0<y a)(hb:0<y b)(hc:0<y c)(h1:Le x y hd a b)(h2:Le x y hd b c):Le x y hd a c:=by
 refine⟨iU ha hb hc h1.1 h2.1,λe=>?_⟩
 have e1:x b*y a<=x a*y b:=iU hb hc ha h2.1 (Int.le_of_eq e.symm)
 have e2:x c*y b<=x b*y c:=iU hc ha hb (Int.le_of_eq e.symm) h1.1
 exact c9 (h1.2 (uf h1.1 e1)) (h2.2 (uf h2.1 e2))
theorem Le.of_not {x y:Nat->Int}{hd:Nat->Nat}{a b:Nat}(h:(decide (x a*y b<x b*y a) || (decide (x a*y b=x b*y a) && decide (hd a<hd b)))=false):Le x y hd b a:=by
 rw[Bool.or_eq_false_iff] at h
 have h1:=of_decide_eq_false h.1
 refine⟨by omega,λe=>?_⟩
 have h2:=h.2
 rw[decide_eq_true e.symm,ff] at h2
 have:=of_decide_eq_false h2
 omega
theorem Le.of_yes {x y:Nat->Int}{hd:Nat->Nat}{a b:Nat}(h:(decide (x a*y b<x b*y a) || (decide (x a*y b=x b*y a) && decide (hd a<hd b)))=true):Le x y hd a b:=by
 rw[qg,b7] at h
 rcases h with h | ⟨h1,h2⟩
 ·have:=of_decide_eq_true h
  exact⟨by omega,λe=>by omega⟩
 ·have h1:=of_decide_eq_true h1
  have h2:=of_decide_eq_true h2
  exact⟨by omega,λ_=>by omega⟩
end
end Sh
namespace K36
open PySem L2
section
variable {K:ae}{vars:List Nat}{tb:TS}{acc a:Addr}{σ:St}{H:Hp}{xs ys:List V}{g:TG}
theorem lW {L:Nat->List V}(hs:∀H',SameX acc H H'->SqL K H' a xs)
  (h:∀i x σ' H',xs[i]?=some x->σ'.length=σ.length->Agree vars σ σ'->SameX acc H H'->∃σ2:St,σ2.length=σ.length/\Agree vars σ σ2/\(∀N:St->Hp->Prop,N σ2 H'->g x σ' H' N)/\Emits vars tb acc σ2 H' (L i)) :
  Emits vars (gL (Itl K a) g tb) acc σ H ((aq xs.length).flatMap L):=by
 intro D pre ha hz hd
 refine bJ (K:=K) (a:=a) (xs:=xs) (g:=g) (D:=D) (λi σ' H'=>i<=xs.length/\σ'.length=σ.length/\Agree vars σ σ'/\SameX acc H H'/\H' acc=some (.lst (pre++(aq i).flatMap L))) ⟨av _,rfl,Agree.refl _ _,SameX.refl _ _,by simpa using ha⟩ (λi σ1 H1 _ ⟨_,_,_,sx1,_⟩=>hs H1 sx1) (λi x σ1 H1 hx ⟨_,hl1,ag1,sx1,h1⟩=>?_) λσ1 H1 ⟨_,hl1,ag1,sx1,h1⟩=>hd σ1 H1 hl1 ag1 sx1 h1
 have hi:i<xs.length:=(ai.mp hx).1
 have hle:=cR L (show i+1<=xs.length from hi)
 rw[aT,bc] at hle
 obtain⟨σ2,l2,ag2,run,em⟩:=h i x σ1 H1 hx hl1 ag1 sx1
 refine run _ (em _ _ h1 (by rw[bc];omega) λσ' H' hl ag sx h2=>⟨hi,hl.trans l2,ag2.trans ag,sx1.trans sx,by rw[h2,aT,gz]⟩)
theorem aBW {l1 l2:Addr}{b1 b2:Bool}{L:Nat->List V}(hlen:ys.length=xs.length)(hs:∀H',SameX acc H H'->SqB b1 K H' l1 xs/\SqB b2 K H' l2 ys)
  (h:∀i x y σ' H' p,xs[i]?=some x->ys[i]?=some y->H' p=none->σ'.length=σ.length->Agree vars σ σ'->SameX acc H H'->∃σ2:St,σ2.length=σ.length/\Agree vars σ σ2/\(∀N:St->Hp->Prop,N σ2 (upd H' p (.tup [x,y]))->g (.ref p) σ' (upd H' p (.tup [x,y])) N)/\Emits vars tb acc σ2 (upd H' p (.tup [x,y])) (L i)) :
  Emits vars (gL (Itz K b1 b2 l1 l2) g tb) acc σ H ((aq xs.length).flatMap L):=by
 intro D pre ha hz hd
 refine aGg (K:=K) (l1:=l1) (l2:=l2) (xs:=xs) (ys:=ys) (g:=g) (D:=D) hlen (λi σ' H'=>i<=xs.length/\σ'.length=σ.length/\Agree vars σ σ'/\SameX acc H H'/\H' acc=some (.lst (pre++(aq i).flatMap L))) ⟨av _,rfl,Agree.refl _ _,SameX.refl _ _,by simpa using ha⟩ (λi σ1 H1 _ ⟨_,_,_,sx1,_⟩=>hs H1 sx1) (λi x y σ1 H1 p hx hy hp ⟨_,hl1,ag1,sx1,h1⟩=>?_) λσ1 H1 ⟨_,hl1,ag1,sx1,h1⟩=>hd σ1 H1 hl1 ag1 sx1 h1
 have hi:i<xs.length:=(ai.mp hx).1
 have hle:=cR L (show i+1<=xs.length from hi)
 rw[aT,bc] at hle
 obtain⟨σ2,l2,ag2,run,em⟩:=h i x y σ1 H1 p hx hy hp hl1 ag1 sx1
 have mp:=aI hp (.tup [x,y])
 refine run _ (em _ _ (mp _ _ h1) (by rw[bc];omega) λσ' H' hl ag sx h2=>⟨hi,hl.trans l2,ag2.trans ag,(sx1.trans mp.x).trans sx,by rw[h2,aT,gz]⟩)
end
theorem nI {α:Type}(L:List Nat)(f:Nat->α):(L.flatMap λk=>[f k])=L.map f:=by
 induction L with
 |nil=>rfl
 |cons a L ih=>rw[ly,ih];rfl
def dA (n:Nat):List (Nat×Nat):=(aq n).flatMap λi=>(aq (n - (i+1))).map λd=>(i,i+1+d)
def cU:Nat->List (List Nat)
 |0=>[[]]
 |n+1=>cU n++(cU n).map (· ++ [n])
def cW (n:Nat):List (List Nat):=((cU n).drop 1).take ((cU n).length - 1 - 1)
def okS (n:Nat) (s:List Nat):Bool:=s == [0] || (!s.contains 0 && decide (s.length<n - 1))
def wW (n:Nat):List (List Nat):=(cW n).filter (okS n)
def fW (n:Nat):List (List Nat×Int):=(wW n).map (λs=>(s,1))++((wW n).filter λs=>s.length == 1).map λs=>(s,-1)
def prt (s:List Nat) (i j:Nat):Bool:=s.contains i != s.contains j
def nN (L:List (List Nat)):List (List Int):=L.map λs=>s.map Int.ofNat
theorem eI {L:List (List Nat)}:(nN L).length=L.length:=by unfold nN;rw[af]
theorem gF:∀n:Nat,(cU n).length=2 ^ n
 |0=>rfl
 |n+1=>by
  show(cU n++(cU n).map _).length=_
  rw[bc,af,gF n,Nat.pow_succ]
  omega
theorem eN:∀(n:Nat),∀s∈cU n,s.length<=n/\∀x∈s,x<n
 |0,s,h=>by
  obtain rfl:s=[]:=by simpa[cU] using h
  exact⟨ba _,λx hx=>by cases hx⟩
 |n+1,s,h=>by
  rcases du.mp (show s∈cU n++(cU n).map (· ++ [n]) from h) with h | h
  ·have:=eN n s h
   exact⟨by omega,λx hx=>by have:=this.2 x hx;omega⟩
  ·obtain⟨t,ht,rfl⟩:=bt.mp h
   have:=eN n t ht
   refine⟨by rw[bc];simp;omega,λx hx=>?_⟩
   rcases du.mp hx with hx | hx
   ·have:=this.2 x hx;omega
   ·obtain rfl:x=n:=by simpa using hx
    omega
theorem pK {n:Nat}{s:List Nat}(h:s∈cW n):s.length<=n/\∀x∈s,x<n:=eN n s (y4 (se h))
section
variable {K:ae}{H H':Hp}
theorem aEy {xs:List V}{T:List (List Int)}(h:Rows K H xs T)(a b:Nat):Rows K H ((xs.drop a).take b) ((T.drop a).take b):=by
 refine⟨by rw[b9,b9,jn,jn,h.1],λi row e=>?_⟩
 rw[List.getElem?_take] at e ⊢
 split at e
 ·rename_i hi
  rw[k9] at e
  obtain⟨c,e1,e2⟩:=h.2 _ row e
  exact⟨c,by rw[if_pos hi,k9];exact e1,e2⟩
 ·cases e
theorem jP {xs:List V}{L:List (List Nat)}(h:Rows K H xs (nN L)){i:Nat}{x:V}(hx:xs[i]?=some x):∃s b,L[i]?=some s/\x = .ref b/\SqT K H b (s.map dJ):=by
 have hi:i<xs.length:=(ai.mp hx).1
 have hl:i<L.length:=by rw[h.1,eI] at hi;exact hi
 obtain⟨b,e1,e2⟩:=h.2 i (L[i].map Int.ofNat) (by unfold nN;rw[bh,ah hl];rfl)
 rw[hx] at e1
 refine⟨L[i],b,ah hl,az e1,?_⟩
 rw[dr] at e2
 exact e2
def RowsS (K:ae) (H:Hp) (xs:List V) (L:List (List Nat×Int)):Prop:=xs.length=L.length/\∀(i:Nat) (e:List Nat×Int),L[i]?=some e->∃b q,xs[i]?=some (.ref b)/\SqT K H b [.ref q, .int e.2]/\SqT K H q (e.1.map dJ)
theorem RowsS.same {xs:List V}{L:List (List Nat×Int)}(h:RowsS K H xs L)(s:Same H H'):RowsS K H' xs L:=⟨h.1,λi e he=>by
 obtain⟨b,q,e1,e2,e3⟩:=h.2 i e he
 exact⟨b,q,e1,s.tup e2,s.tup e3⟩⟩
theorem RowsS.x {xs ys:List V}{L:List (List Nat×Int)}{p:Addr}(h:RowsS K H xs L)(hp:H p=some (.lst ys))(s:SameX p H H'):RowsS K H' xs L:=⟨h.1,λi e he=>by
 obtain⟨b,q,e1,e2,e3⟩:=h.2 i e he
 exact⟨b,q,e1,qE e2 hp s,qE e3 hp s⟩⟩
theorem RowsS.app {xs ys:List V}{L M:List (List Nat×Int)}(h:RowsS K H xs L)(g:RowsS K H ys M):RowsS K H (xs++ys) (L++M):=by
 refine⟨by rw[bc,bc,h.1,g.1],λi e he=>?_⟩
 by_cases hi:i<L.length
 ·rw[c8 hi] at he
  obtain⟨b,q,e1,e2,e3⟩:=h.2 i e he
  exact⟨b,q,by rw[c8 (by rw[h.1];exact hi)];exact e1,e2,e3⟩
 ·rw[c5 (by omega)] at he
  obtain⟨b,q,e1,e2,e3⟩:=g.2 _ e he
  exact⟨b,q,by rw[c5 (by rw[h.1];omega),h.1];exact e1,e2,e3⟩
theorem aAa {xs:List V}{L:List (List Nat×Int)}(h:RowsS K H xs L){i:Nat}{x:V}(hx:xs[i]?=some x):∃e b q,L[i]?=some e/\x = .ref b/\SqT K H b [.ref q, .int e.2]/\SqT K H q (e.1.map dJ):=by
 have hi:i<xs.length:=(ai.mp hx).1
 have hl:i<L.length:=by rw[<- h.1];exact hi
 obtain⟨b,q,e1,e2,e3⟩:=h.2 i L[i] (ah hl)
 rw[hx] at e1
 exact⟨L[i],b,q,ah hl,az e1,e2,e3⟩
theorem aJc (n d:Nat):HT.sIx n d (some (-1))=n - 1:=by
 show(if(-1:Int)<0 then((-1:Int)+(n:Int)).toNat else min (-1:Int).toNat n)=n - 1
 rw[if_pos (by decide)]
 omega
theorem aDa {xs:List V}{a:Nat}(h:a<=xs.length):vB xs (some (a:Int)) (some (-1))=(xs.drop a).take (xs.length - 1 - a):=by
 unfold vB
 rw[HT.sIx_nat,aJc,Nat.min_eq_left h]
theorem aGR {xs:List V}(h:1<=xs.length):vB xs (some 1) (some (-1))=(xs.drop 1).take (xs.length - 1 - 1):=aDa (a:=1) h
theorem aFy {xs:List V}:vB xs none (some (-1))=xs.take (xs.length - 1):=by
 unfold vB
 rw[HT.sIx_none,aJc,List.drop_zero]
 rfl
theorem aBb {p:Addr}{xs:List V}{v:V}{Q:VK}(h:SqL K H p xs)(hn:0<xs.length)(hj:xs[xs.length - 1]?=some v)(q:Q v H):aZ K (.ref p) (.int (-1)) H Q:=by
 refine .inl ⟨p,xs,-1,v,rfl,rfl,h,?_,q⟩
 unfold atI ixN
 rw[if_neg (by decide),if_pos (by omega),show((-1:Int)+(xs.length:Int)).toNat=xs.length - 1 by omega]
 exact hj
theorem yT {s:List Nat}{i:Nat}:inV (.int (i:Int)) (s.map dJ)=s.contains i:=by
 unfold inV
 rw[yi,List.contains_eq_any_beq]
 congr 1
 funext y
 show eqV (.int (y:Int)) (.int (i:Int))=(i == y)
 unfold eqV
 show decide ((y:Int)=(i:Int))=_
 by_cases c:i=y
 ·subst c;simp
 ·rw[decide_eq_false (by omega),beq_false_of_ne c]
theorem uE {s:List Nat}:(s.map dJ).all sY=true:=by
 rw[u3]
 exact bw.mpr λ_ _=>rfl
theorem EmR.mono {vars vars':List Nat}{tb:TS}{acc:Addr}{σ:St}{H:Hp}{L:List (List Int)}(h:EmR K vars tb acc σ H L)(hs:∀k∈vars,k∈vars'):EmR K vars' tb acc σ H L:=
 λD pre R ha hR hz hd=>h D pre R ha hR hz λσ' H' pre' hl ag sx h1 h2=>hd σ' H' pre' hl (λk hk=>ag k λz=>hk (hs k z)) sx h1 h2
def aJU (K:ae):Sp:=λvs H Q _=>∃n:Nat,vs=[.int (n:Int)]/\n<=8/\∀F ys H',Same H H'->H F=none->H' F=some (.lst ys)->Rows K H' ys (prN (dA n))->Q (.ref F) H'
theorem wO {n:Nat}(h:n<=8):(dA n).length<=64:=by
 unfold dA
 have:=eP (λi=>(aq (n - (i+1))).map λd=>(i,i+1+d)) 8 n λi _=>by rw[af,e7];omega
 omega
theorem aJH:∀vs H Q E,aJU K vs H Q E->pD K { nx:=λ_ H'=>Q .non H',rt:=Q } (bR ["many"] vs) H:=by
 intro vs H Q E h
 obtain⟨n,rfl,h8,q⟩:=h
 refine⟨_,rfl,(n:Int),rfl,by omega,by omega,λA hA=>?_⟩
 rw[bu]
 have e1:prN (dA n)=(aq n).flatMap λi=>(aq (n - (i+1))).flatMap λd=>[[(i:Int),((i+1+d:Nat):Int)]]:=by
  unfold prN dA
  rw[mU]
  congr 1
  funext i
  rw[dr,nI]
  rfl
 refine aAG (K:=K) [0,1] (prN (dA n)) hA (by rw[jS];have:=wO h8;omega) (EmR.cast (uT (by decide) (by show 0<3;decide) λi σ1 H1 hi l1 ag1 s1 sx1=>?_) e1.symm) λσ2 H2 pre m2 hA2 r3=>q A pre H2 m2 hA hA2 r3
 rw[kh] at s1
 have t2:σ1[2]?=some (some (.int (n:Int))):=(ag1 2 (by decide)).trans rfl
 refine EmR.mono (vars:=[1]) (aGE (lo:=(i:Int)+1) (n:=n - (i+1)) (λR hR=>⟨_,s1,_,t2,_,_,rfl,⟨by omega,by omega,by omega,by omega⟩,by rw[show((n:Int) - ((i:Int)+1)).toNat=n - (i+1) by omega];exact hR⟩) (by decide) (by rw[l1];show 1<3;decide) λd σ2 H2 hd l2 ag2 s2 sx2=>?_) (by simp)
 have t0:σ2[0]?=some (some (.int (i:Int))):=(ag2 0 (by decide)).trans s1
 rw[show(i:Int)+1+(d:Int)=((i+1+d:Nat):Int) by omega] at s2
 exact aCX (by show 2<=100;decide) λR hR=>⟨_,t0,_,s2,hR⟩
def aJs (K:ae):Sp:=λvs H Q _=>∃n:Nat,vs=[.int (n:Int)]/\1<=n/\n<=6/\∀F ys H',Same H H'->H F=none->H' F=some (.lst ys)->Rows K H' ys (nN (cW n))->Q (.ref F) H'
theorem aKp:∀vs H Q E,aJs K vs H Q E->rB K { nx:=λ_ H'=>Q .non H',rt:=Q } (bR ["many","sets","place"] vs) H:=by
 intro vs H Q E h
 obtain⟨n,rfl,n1,n6,q⟩:=h
 refine⟨show 0<=bx by decide,λp hp=>⟨show 1<=bx by decide,λl hl=>?_⟩⟩
 have mp:=aI hp (.tup [])
 have ml:=aI hl (.lst [V.ref p])
 have m0:=mp.trans ml
 have hl0:(upd (upd H p (.tup [])) l (.lst [V.ref p])) l=some (.lst [V.ref p]):=aG
 have hp0:SqT K (upd (upd H p (.tup [])) l (.lst [V.ref p])) p []:=ml.tup (.of aG)
 have hlH:H l=none:=mp.free hl
 generalize upd (upd H p (.tup [])) l (.lst [V.ref p])=G at *
 refine⟨_,rfl,(n:Int),rfl,by omega,by omega,?_⟩
 rw[bu]
 refine cZ (lo:=0) (n:=n) (λi σ' H'=>i<=n/\Same H H'/\∃F x2 ys,σ'=[some (.int (n:Int)),some (.ref F),x2]/\H F=none/\H' F=some (.lst ys)/\Rows K H' ys (nN (cU i))) ⟨av _,m0,l,none,[.ref p],rfl,hlH,hl0,rfl,λi row e=>?_⟩ (λi σ' H1 hi ⟨_,m1,F,x2,ys,es,hF0,hF,r1⟩=>?_) λσ' H1 ⟨_,m1,F,x2,ys,es,hF0,hF,r1⟩=>?_
 ·match i,e with
  |0,e=>
   obtain rfl:([]:List Int)=row:=az e
   exact⟨p,rfl,hp0⟩
 ·subst es
  rw[kh]
  have yl:ys.length=(cU i).length:=by rw[r1.1,eI]
  have y64:ys.length<=32:=by
   rw[yl,gF]
   exact c9 (br (by decide) (show i<=5 by omega)) (by decide)
  refine⟨_,rfl,_,rfl,F,rfl, .inl ⟨⟨_, .of hF⟩,λA hA=>?_⟩⟩
  refine bJ (K:=K) (a:=F) (xs:=ys) (λj σ2 H2=>j<=ys.length/\Same H1 H2/\(∃x0,σ2=[x0,some (.int (i:Int))])/\∃zs,H2 A=some (.lst zs)/\Rows K H2 zs (nN (((cU i).take j).map (· ++ [i])))) ⟨av _,aI hA _,⟨_,rfl⟩,[],aG,Rows.nil⟩ (λj σ2 H2 _ ⟨_,s2,_⟩ => .of (s2 _ _ hF)) (λj x σ2 H2 hx ⟨_,s2,⟨x0,e2⟩,zs,hA2,r2⟩=>?_) λσ2 H2 ⟨_,s2,_,zs,hA2,r2⟩=>?_
  ·subst e2
   obtain⟨s,b,hs,rfl,hb⟩:=jP (r1.same s2) hx
   have hj:j<ys.length:=(ai.mp hx).1
   have sl:s.length<=i:=(eN i s (au hs)).1
   refine⟨_,rfl,_,rfl,show 1<=bx by decide,λt ht=>?_⟩
   have mt:=aI ht (.tup [V.int (i:Int)])
   refine .inr ⟨b,t,_,_,rfl,rfl,mt.tup hb, .of aG,?_,λc H3 _ hc s3=>?_⟩
   ·rw[af]
    exact c9 (show s.length+1<=10 by omega) (by decide)
   ·have s4:=mt.trans s3
    have hA3:=s4 _ _ hA2
    refine⟨zs,hA3,bo (show zs.length<=100 by rw[r2.1,eI,af,b9];omega) (by decide),hj,cM hA (s2.trans s4),⟨_,rfl⟩,_,aG,?_⟩
    rw[fz,hs,bz]
    have:nN (((cU i).take j).map (· ++ [i])++((some s).toList.map (· ++ [i])))=nN (((cU i).take j).map (· ++ [i]))++[(s++[i]).map Int.ofNat]:=by
     unfold nN
     rw[bz]
     rfl
    rw[this]
    refine Rows.put (Rows.snoc (r2.same s4) (b:=c) ?_) hA3
    rw[dr,bz]
    exact hc
  ·have hA4:=s2 _ _ hF
   refine .inl ⟨F,A,ys,zs,rfl,rfl,hA4,hA2,?_,λF4 hF4=>?_⟩
   ·rw[r2.1,eI,af,b9]
    exact c9 (show _<=100 by omega) (by decide)
   ·have m4:=aI hF4 (.lst (ys++zs))
    refine⟨hi,(m1.trans s2).trans m4,F4,_,ys++zs,rfl,(m1.trans s2).free hF4,aG,?_⟩
    rw[yl,dn] at r2
    have:nN (cU (i+1))=nN (cU i)++nN ((cU i).map (· ++ [i])):=by unfold nN;rw[<- bz];rfl
    rw[this]
    exact(nY (r1.same s2) r2).same m4
 ·subst es
  refine⟨_,rfl,1,rfl,1,rfl,_,rfl, .inl ⟨F,ys,rfl, .of hF,λp' hp'=>?_⟩⟩
  rw[aGR (by rw[r1.1,eI,gF];exact Nat.one_le_two_pow)]
  have m4:=aI hp' (.lst ((ys.drop 1).take (ys.length - 1 - 1)))
  refine q p' _ _ (m1.trans m4) (m1.free hp') aG ?_
  have:=(aEy r1 1 (ys.length - 1 - 1)).same m4
  have e:nN (cW n)=((nN (cU n)).drop 1).take (ys.length - 1 - 1):=by
   unfold nN cW
   rw[nk,sr,r1.1,eI]
  rw[e]
  exact this
end
section
variable {K:ae}
def aHg (K:ae):Sp:=λvs H Q _=>∃(t:Addr) (s:List Nat) (i j:Nat),vs=[.ref t, .int (i:Int), .int (j:Int)]/\SqT K H t (s.map dJ)/\Q (.bl (prt s i j)) H
theorem aHM {a b:Bool}:eqD (.bl a) (.bl b)=(a == b):=by cases a <;> cases b <;> rfl
theorem aIs:∀vs H Q E,aHg K vs H Q E->pR K { nx:=λ_ H'=>Q .non H',rt:=Q } (bR ["some","i","j"] vs) H:=by
 intro vs H Q E h
 obtain⟨t,s,i,j,rfl,ht,q⟩:=h
 refine⟨_,rfl,_,rfl,t,_,rfl, .inr ht,rfl,uE,_,rfl,_,rfl,t,_,rfl, .inr ht,rfl,uE, .bl _, .bl _,av _,rfl,rfl,?_⟩
 rw[aHM]
 show Q (.bl (!(inV (.int (i:Int)) (s.map dJ) == inV (.int (j:Int)) (s.map dJ)))) H
 rw[yT,yT]
 exact q
theorem dM {s:List Nat}:s.map dJ=(s.map Int.ofNat).map V.int:=by rw[dr];rfl
theorem oE {r q:List Int}:eqD (.tup (r.map Dt.int)) (.tup (q.map Dt.int))=decide (r=q):=by rw[eqD];exact aFV
theorem xG {s t:List Nat}:s.map Int.ofNat=t.map Int.ofNat↔s=t:=vc λa b e=>Int.ofNat.inj e
theorem eJ (r:List Int):dep (.tup (r.map Dt.int))<=100:=by
 have:lV (r.map Dt.int)=0:=by
  induction r with
  |nil=>rfl
  |cons a r ih=>rw[c4,lV,ih];rfl
 rw[dep,this]
 decide
theorem aFR {n b:Nat}{s:List Nat}{H:Hp}{R:Bool->Hp->Prop}(n1:1<=n)(hb:SqT K H b (s.map dJ))(q:∀H',Same H H'->R (okS n s) H') :
  tOr (bH (tOp (gE K) (aD 0) (lS (aC (tC (.int 0)) aQ)))) (aFo (bH (tOp (rIn K true) (tC (.int 0)) (aD 0))) (bH (tOp yLt (tCB (iA K) (aC (aD 0) aQ)) (tOp oX (aD 1) (tC (.int 1)))))) [some (.ref b),some (.int (n:Int))] H R:=by
 refine⟨_,rfl,show 1<=bx by decide,λp hp=>?_⟩
 have mp:=aI hp (.tup [V.int 0])
 have hb2:SqT K (upd H p (.tup [V.int 0])) b (s.map dJ):=mp.tup hb
 have hp2:SqT K (upd H p (.tup [V.int 0])) p (([0]:List Int).map V.int) := .of aG
 generalize upd H p (.tup [V.int 0])=G at *
 refine⟨.tup ((s.map Int.ofNat).map Dt.int), .tup (([0]:List Int).map Dt.int),eJ _,⟨b,_,rfl,by rw[<- dM];exact hb2,ShL.ints _⟩,⟨p,_,rfl,hp2,ShL.ints _⟩,_,rfl,?_⟩
 rw[oE]
 have e0:decide (s.map Int.ofNat=[(0:Int)])=(s == [0]):=by
  by_cases c:s=[0]
  ·subst c;rfl
  ·rw[beq_false_of_ne c]
   exact decide_eq_false λz=>c (xG.mp (z.trans rfl))
 rw[e0]
 have q:=q G mp
 unfold okS at q
 cases c:s == [0] with
 |true=>
  rw[c] at q
  exact cT rfl q
 |false=>
  rw[c,sk] at q
  refine bB (by decide) ⟨_,rfl,b,_,rfl, .inr hb2,rfl,uE,_,rfl,?_⟩
  show if(!inV (.int 0) (s.map dJ))=true then _ else _
  rw[show inV (.int 0) (s.map dJ)=s.contains 0 from yT (i:=0)]
  cases c2:s.contains 0 with
  |true=>
   rw[c2] at q
   exact bB (by decide) q
  |false=>
   rw[c2] at q
   refine cT rfl ⟨_,rfl,b,_,rfl, .inr hb2,_,rfl,_,_,rfl,rfl,_,_,rfl,rfl,_,rfl,?_⟩
   rw[af]
   have:decide ((s.length:Int)<(n:Int) - 1)=decide (s.length<n - 1):=by
    by_cases d:s.length<n - 1
    ·rw[decide_eq_true d];exact decide_eq_true (by omega)
    ·rw[decide_eq_false d];exact decide_eq_false (by omega)
   rw[this]
   exact q
theorem aCS {A F:Addr}{H:Hp}{ys:List V}{L:List (List Nat)}{c:Int}{p:List Nat->Bool}{ts:List TT}{tc:TE}{D:mB}{x0:Option V}(hA:H A=none)(hF:H F=some (.lst ys))(r:Rows K H ys (nN L))(z:L.length<=100)
  (hts:∀(tb:TS) (D:mB) (s:List Nat) (b:Addr) (H':Hp),s∈L->SqT K H' b (s.map dJ)->(if p s=true then tb D [some (.ref b)] H' else D.nx [some (.ref b)] H')->iG ts tb D [some (.ref b)] H')
  (htc:∀σ H' (Q:VK),Q (.int c) H'->tc σ H' Q)
  (q:∀σ' H' zs,Same H H'->H' A=some (.lst zs)->RowsS K H' zs ((L.filter p).map λs=>(s,c))->D.nx σ' H'):gL (Itl K F) (aJ 0) (iG ts (cP (lS (aC (aD 0) (aC tc aQ))) A)) D [x0] (upd H A (.lst [])):=by
 have yl:ys.length=L.length:=by rw[r.1,eI]
 refine bJ (K:=K) (a:=F) (xs:=ys) (D:=D) (λi σ' H'=>i<=ys.length/\Same H H'/\(∃x0,σ'=[x0])/\∃zs,H' A=some (.lst zs)/\RowsS K H' zs (((L.take i).filter p).map λs=>(s,c))) ⟨av _,aI hA _,⟨_,rfl⟩,[],aG,rfl,λi e he=>by cases he⟩ (λi σ1 H1 _ ⟨_,s1,_⟩ => .of (s1 _ _ hF)) (λi x σ1 H1 hx ⟨_,s1,⟨x1,es⟩,zs,hA1,r1⟩=>?_) λσ1 H1 ⟨_,s1,_,zs,hA1,r1⟩=>q σ1 H1 zs s1 hA1 (by rw[yl,dn] at r1;exact r1)
 subst es
 have hi:i<ys.length:=(ai.mp hx).1
 obtain⟨s,b,hs,rfl,hb⟩:=jP (r.same s1) hx
 refine hts _ _ s b H1 (au hs) hb ?_
 have e1:(L.take (i+1)).filter p=(L.take i).filter p++if p s=true then[s] else[]:=by
  rw[fz,hs,jk]
  congr 1
  show[s].filter p=_
  by_cases c:p s=true
  ·rw[if_pos c,kc c];rfl
  ·rw[if_neg c,kd c];rfl
 by_cases cp:p s=true
 ·rw[if_pos cp] at e1
  refine cT cp ⟨_,rfl,htc _ _ _ ⟨show 2<=bx by decide,λt ht=>?_⟩⟩
  have mt:=aI ht (.tup [V.ref b, .int c])
  have hA2:=mt _ _ hA1
  refine⟨zs,hA2,bo (show zs.length<=100 by rw[r1.1,af];have:=dj p (L.take i);rw[b9] at this;omega) (by decide),hi,cM hA (s1.trans mt),⟨_,rfl⟩,_,aG,?_⟩
  rw[e1,bz]
  refine RowsS.x (H:=upd H1 t (.tup [V.ref b, .int c])) (p:=A) (RowsS.app (r1.same mt) ⟨rfl,λk e he=>?_⟩) hA2 (SameX.put _)
  match k,he with
  |0,he=>
   obtain rfl:(s,c)=e:=az he
   exact⟨t,b,rfl, .of aG,mt.tup hb⟩
 ·rw[if_neg cp,gu] at e1
  refine bB (by simpa using cp) ⟨hi,s1,⟨_,rfl⟩,zs,hA1,?_⟩
  rw[e1]
  exact r1
def aKX (K:ae):Sp:=λvs H Q _=>∃n:Nat,vs=[.int (n:Int)]/\3<=n/\n<=6/\∀F ys H',Same H H'->H F=none->H' F=some (.lst ys)->RowsS K H' ys (fW n)->Q (.ref F) H'
theorem uG {n:Nat}(h:n<=6):(cW n).length<=62:=by
 unfold cW
 rw[b9,jn,gF]
 have:2 ^ n<=2 ^ 6:=br (by decide) h
 have:(2:Nat) ^ 6=64:=rfl
 omega
theorem aCb {n:Nat}(h:n<=6):(wW n).length<=62:=c9 (dj _ _) (uG h)
theorem aKK:∀vs H Q E,aKX K vs H Q E->jZ K (aJs K) { nx:=λ_ H'=>Q .non H',rt:=Q } (bR ["many","sets"] vs) H:=by
 intro vs H Q E h
 obtain⟨n,rfl,n3,n6,q⟩:=h
 refine⟨_,rfl,n,rfl,by omega,n6,λF0 ys0 H0 s0 _ hF0 r0=>⟨F0,rfl, .inl ⟨⟨_, .of hF0⟩,λA hA=>?_⟩⟩⟩
 have yl:ys0.length=(cW n).length:=by rw[r0.1,eI]
 refine bJ (K:=K) (a:=F0) (xs:=ys0) (λi σ' H'=>i<=ys0.length/\Same H0 H'/\(∃x0,σ'=[x0,some (.int (n:Int))])/\∃zs,H' A=some (.lst zs)/\Rows K H' zs (nN (((cW n).take i).filter (okS n)))) ⟨av _,aI hA _,⟨_,rfl⟩,[],aG,Rows.nil⟩ (λi σ1 H1 _ ⟨_,s1,_⟩ => .of (s1 _ _ hF0)) (λi x σ1 H1 hx ⟨_,s1,⟨x1,es⟩,zs,hA1,r1⟩=>?_) λσ1 H1 ⟨_,s1,_,zs,hA1,r1⟩=>?_
 ·subst es
  have hi:i<ys0.length:=(ai.mp hx).1
  obtain⟨s,b,hs,rfl,hb⟩:=jP (r0.same s1) hx
  refine aFR (by omega) hb λH2 s2=>?_
  have hA2:=s2 _ _ hA1
  have e1:((cW n).take (i+1)).filter (okS n)=((cW n).take i).filter (okS n)++if okS n s=true then[s] else[]:=by
   rw[fz,hs,jk]
   congr 1
   show[s].filter (okS n)=_
   by_cases c:okS n s=true
   ·rw[if_pos c,kc c];rfl
   ·rw[if_neg c,kd c];rfl
  by_cases cp:okS n s=true
  ·rw[if_pos cp] at e1
   refine cT cp ⟨_,rfl,zs,hA2,bo (show zs.length<=100 by rw[r1.1,eI];have:=dj (okS n) ((cW n).take i);rw[b9] at this;have:=uG n6;omega) (by decide),hi,cM hA (s1.trans s2),⟨_,rfl⟩,_,aG,?_⟩
   rw[e1]
   have:nN (((cW n).take i).filter (okS n)++[s])=nN (((cW n).take i).filter (okS n))++[s.map Int.ofNat]:=by unfold nN;rw[bz];rfl
   rw[this]
   exact Rows.put (Rows.snoc (r1.same s2) (by rw[<- dM];exact s2.tup hb)) hA2
  ·rw[if_neg cp,gu] at e1
   refine bB (by simpa using cp) ⟨hi,s1.trans s2,⟨_,rfl⟩,zs,hA2,?_⟩
   rw[e1]
   exact r1.same s2
 ·rw[yl,dn] at r1
  have r1:Rows K H1 zs (nN (wW n)):=r1
  have z6:=aCb n6
  refine⟨_,rfl,A,rfl, .inl ⟨⟨_, .of hA1⟩,λB hB=>?_⟩⟩
  refine aCS (K:=K) (F:=A) (c:=1) (p:=λ_=>true) (ts:=[]) hB hA1 r1 (by omega) (λtb D s b H' _ _ h=>by rw[if_pos rfl] at h;exact h) (λ_ _ _ h=>h) λσ2 H2 us s2 hB2 r2=>?_
  refine⟨_,rfl,A,rfl, .inl ⟨⟨_, .of (s2 _ _ hA1)⟩,λC hC=>?_⟩⟩
  refine aCS (K:=K) (F:=A) (c:=-1) (p:=λs=>s.length == 1) (ts:=[(bH (tOp (gE K) (tCB (iA K) (aC (aD 0) aQ)) (tC (.int 1))))]) hC (s2 _ _ hA1) (r1.same s2) (by omega) (λtb D s b H' _ hb h=>?_) (λ_ _ _ h=>⟨1,rfl,h⟩) λσ3 H3 ws s3 hC3 r3=>?_
  ·refine⟨_,rfl,b,_,rfl, .inr hb, .int (s.length:Int), .int ((1:Nat):Int),av _,by rw[af];rfl,rfl,_,rfl,?_⟩
   rw[aCl]
   exact h
  ·refine .inl ⟨B,C,us,ws,rfl,rfl,s3 _ _ hB2,hC3,?_,λF4 hF4=>?_⟩
   ·rw[r2.1,r3.1,af,af]
    have h1:=dj (λ_=>true) (wW n)
    have h2:=dj (λs:List Nat=>s.length == 1) (wW n)
    exact c9 (show _<=200 by omega) (by decide)
   ·have m4:=aI hF4 (.lst (us++ws))
    have sA:=(((s0.trans s1).trans s2).trans s3)
    refine q F4 _ _ (sA.trans m4) (sA.free hF4) aG ?_
    have:fW n=((wW n).filter λ_=>true).map (λs=>(s,(1:Int)))++((wW n).filter λs=>s.length == 1).map λs=>(s,(-1:Int)):=by
     unfold fW
     rw[zq.mpr λ_ _=>rfl]
    rw[this]
    exact((r2.same s3).app r3).same m4
end
section
variable {K:ae}
def mkR (N:Nat) (f:Nat->Int):List V:=(aq N).map λj=>V.int (f j)
theorem bQ {N:Nat}{f:Nat->Int}:(mkR N f).length=N:=by unfold mkR;rw[af,e7]
theorem kQ {N j:Nat}{f:Nat->Int}(h:j<N):(mkR N f)[j]?=some (.int (f j)):=by unfold mkR;rw[bh,uk h];rfl
theorem tL {N j:Nat}{f:Nat->Int}{x:V}(h:(mkR N f)[j]?=some x):j<N/\x = .int (f j):=by
 have hj:j<N:=by have:=(ai.mp h).1;rw[bQ] at this;exact this
 rw[kQ hj] at h
 exact⟨hj,(az h).symm⟩
theorem eX {N:Nat}{f g:Nat->Int}(h:∀j,j<N->f j=g j):mkR N f=mkR N g:=by
 unfold mkR
 exact ug λj hj=>by rw[h j (da.mp hj)]
structure Mt (H:Hp)(F:Addr)(ls:List Addr)(m N:Nat)(f:Nat->Nat->Int):Prop where
 top:H F=some (.lst (ls.map V.ref))
 len:ls.length=m
 row:∀(i:Nat) (l:Addr),ls[i]?=some l->H l=some (.lst (mkR N (f i)))
 out:F∉ls
theorem Mt.same {H H':Hp}{F:Addr}{ls:List Addr}{m N:Nat}{f:Nat->Nat->Int}(M:Mt H F ls m N f)(s:Same H H'):Mt H' F ls m N f:=⟨s _ _ M.top,M.len,λi l h=>s _ _ (M.row i l h),M.out⟩
theorem Mt.congr {H:Hp}{F:Addr}{ls:List Addr}{m N:Nat}{f g:Nat->Nat->Int}(M:Mt H F ls m N f)(h:∀i j,i<m->j<N->f i j=g i j):Mt H F ls m N g:=⟨M.top,M.len,λi l e=>by
 have hi:i<m:=by have:=(ai.mp e).1;rw[M.len] at this;exact this
 rw[M.row i l e,eX λj hj=>h i j hi hj],M.out⟩
theorem Mt.at {H:Hp}{F:Addr}{ls:List Addr}{m N i:Nat}{f:Nat->Nat->Int}(M:Mt H F ls m N f)(hi:i<m):∃l,ls[i]?=some l/\(ls.map V.ref)[i]?=some (.ref l)/\H l=some (.lst (mkR N (f i))):=by
 have hl:i<ls.length:=by rw[M.len];exact hi
 exact⟨ls[i],ah hl,by rw[bh,ah hl];rfl,M.row i _ (ah hl)⟩
theorem aEM {H:Hp}{F:Addr}{ls:List Addr}{m N i j t si sj:Nat}{f:Nat->Nat->Int}{σ:St}{Q:VK}(M:Mt H F ls m N f)(ht:σ[t]?=some (some (.ref F)))(hi:σ[si]?=some (some (.int (i:Int))))(hj:σ[sj]?=some (some (.int (j:Int))))(li:i<m)(lj:j<N)(q:Q (.int (f i j)) H):tOp (aZ K) (tOp (aZ K) (aD t) (aD si)) (aD sj) σ H Q:=by
 obtain⟨l,h1,h2,h3⟩:=M.at li
 exact⟨_,ht,_,hi,ixL (.of M.top) h2 ⟨_,hj,ixL (.of h3) (kQ lj) q⟩⟩
theorem aIx {H:Hp}{F:Addr}{ls:List Addr}{m N i t si:Nat}{f:Nat->Nat->Int}{σ:St}{Q:VK}(M:Mt H F ls m N f)(ht:σ[t]?=some (some (.ref F)))(hi:σ[si]?=some (some (.int (i:Int))))(li:i<m)(N0:0<N)(q:Q (.int (f i (N - 1))) H):tOp (aZ K) (tOp (aZ K) (aD t) (aD si)) (tUn xU (tC (.int 1))) σ H Q:=by
 obtain⟨l,h1,h2,h3⟩:=M.at li
 exact⟨_,ht,_,hi,ixL (.of M.top) h2 ⟨1,rfl,aBb (.of h3) (by rw[bQ];exact N0) (by rw[bQ];exact kQ (by omega)) q⟩⟩
def aJE (K:ae):Sp:=λvs H Q _=>∃(F:Addr) (ls:List Addr) (m N:Nat) (f:Nat->Nat->Int),vs=[.ref F]/\Mt H F ls (m+1) (N+1) f/\N<=100/\∀H',Same H H'->((∀j,j<N->0<=f m j)->Q .non H')/\∀c,c<N->f m c<0->(∀j,j<c->0<=f m j)->Q (.int (c:Int)) H'
theorem aKs:∀vs H Q E,aJE K vs H Q E->iJ K { nx:=λ_ H'=>Q .non H',rt:=Q } (bR ["rows","column","turned"] vs) H:=by
 intro vs H Q E h
 obtain⟨F,ls,m,N,f,rfl,M,hN,q⟩:=h
 obtain⟨l,h1,h2,h3⟩:=M.at (show m<m+1 by omega)
 refine⟨_,rfl,1,rfl,aBb (.of M.top) (by rw[af,M.len];omega) (by rw[af,M.len];exact h2) ⟨1,rfl,_,rfl, .inl ⟨l,_,rfl, .of h3,λp hp=>?_⟩⟩⟩
 rw[aFy]
 have ec:(mkR (N+1) (f m)).take ((mkR (N+1) (f m)).length - 1)=mkR N (f m):=by
  rw[bQ]
  unfold mkR
  rw[<- nk,List.take_range,Nat.min_eq_left (by omega)]
  rfl
 rw[ec]
 have mp:=aI hp (.lst (mkR N (f m)))
 have hp2:(upd H p (.lst (mkR N (f m)))) p=some (.lst (mkR N (f m))):=aG
 generalize upd H p (.lst (mkR N (f m)))=G at *
 refine⟨p,true,rfl,⟨_, .of hp2⟩,?_⟩
 refine zZ (K:=K) (b:=true) (l:=p) (xs:=mkR N (f m)) (λi σ' H'=>i<=N/\Same G H'/\(∃x1 x2,σ'=[some (.ref F),x1,x2])/\∀j,j<i->0<=f m j) ⟨av _,Same.refl _,⟨_,_,rfl⟩,λj hj=>by omega⟩ (λi σ1 H1 _ ⟨_,s1,_⟩ => .of (s1 _ _ hp2)) (λi x σ1 H1 t hx ht ⟨_,s1,⟨x1,x2,es⟩,a1⟩=>?_) λσ1 H1 ⟨_,s1,_,a1⟩=>(q H1 (mp.trans s1)).1 (by rw[bQ] at a1;exact a1)
 subst es
 obtain⟨hi,rfl⟩:=tL hx
 have mt:=aI ht (.tup [V.int (i:Int), .int (f m i)])
 refine⟨t,_,rfl, .of aG,rfl,_,_,rfl,_,_,rfl,rfl,?_⟩
 refine⟨_,rfl,_,_,rfl,rfl,_,rfl,nQ (λc=>?_) λc=>?_⟩
 ·exact⟨_,rfl,(q _ ((mp.trans s1).trans mt)).2 i hi (of_decide_eq_true c) a1⟩
 ·refine⟨hi,s1.trans mt,⟨_,_,rfl⟩,λj hj=>?_⟩
  by_cases e:j=i
  ·subst e
   have:=of_decide_eq_false (dq _ |>.mp c)
   omega
  ·exact a1 j (by omega)
def tgt (x y:Nat->Int) (hd:Nat->Nat) (a b:Nat):Bool:=decide (x a*y b<x b*y a) || (decide (x a*y b=x b*y a) && decide (hd a<hd b))
def hdL (m:Nat) (h:Nat->Nat):List V:=(aq m).map λi=>dJ (h i)
theorem qZ {m i:Nat}{h:Nat->Nat}(hi:i<m):(hdL m h)[i]?=some (dJ (h i)):=by unfold hdL;rw[bh,uk hi];rfl
theorem gA {m:Nat}{h:Nat->Nat}:(hdL m h).length=m:=by unfold hdL;rw[af,e7]
def aKT (K:ae):Sp:=λvs H Q _=>∃(F hl:Addr) (ls:List Addr) (m N c a o:Nat) (f:Nat->Nat->Int) (h:Nat->Nat),vs=[.ref F, .ref hl, .int (c:Int), .int (a:Int), .int (o:Int)]/\Mt H F ls (m+1) (N+1) f/\H hl=some (.lst (hdL m h))/\(∀i j,(f i j).natAbs<2 ^ 400)/\c<=N/\a<m/\o<m/\Q (.bl (tgt (λi=>f i N) (λi=>f i c) h a o)) H
theorem big {x:Int}(h:x.natAbs<2 ^ 400):x.natAbs<2 ^ 8000:=aw h (br (by decide) (by decide))
theorem aKB:∀vs H Q E,aKT K vs H Q E->mY K { nx:=λ_ H'=>Q .non H',rt:=Q } (bR ["rows","held","column","at","other","one_room","other_room"] vs) H:=by
 intro vs H Q E h
 obtain⟨F,hl,ls,m,N,c,a,o,f,h,rfl,M,hh,fb,cN,am,om,q⟩:=h
 refine aIx (t:=0) (si:=3) (i:=a) M rfl rfl (by omega) (by omega) ?_
 refine aEM (t:=0) (si:=4) (sj:=2) (i:=o) (j:=c) M rfl rfl rfl (by omega) (by omega) ⟨.inr ⟨big (fb _ _),big (fb _ _)⟩,?_⟩
 refine aIx (t:=0) (si:=4) (i:=o) M rfl rfl (by omega) (by omega) ?_
 refine aEM (t:=0) (si:=3) (sj:=2) (i:=a) (j:=c) M rfl rfl rfl (by omega) (by omega) ⟨.inr ⟨big (fb _ _),big (fb _ _)⟩,?_⟩
 rw[Nat.add_sub_cancel]
 unfold tgt at q
 refine⟨_,rfl,_,rfl,_,_,rfl,rfl,_,rfl,nQ (λc1=>?_) λc1=>?_⟩
 ·have:decide (f a N*f o c<f o N*f a c)=true:=c1
  rw[this,Ay] at q
  exact q
 ·have:decide (f a N*f o c<f o N*f a c)=false:=dq _ |>.mp c1
  rw[this,sk] at q
  refine⟨_,rfl,_,rfl, .int _, .int _,av _,rfl,rfl,_,rfl,?_⟩
  have ee:eqD (.int (f a N*f o c)) (.int (f o N*f a c))=decide (f a N*f o c=f o N*f a c):=by rw[eqD];rfl
  rw[ee]
  by_cases c2:f a N*f o c=f o N*f a c
  ·rw[decide_eq_true c2,ff] at q
   refine cT (decide_eq_true c2) ⟨_,rfl,_,rfl,ixL (.of hh) (qZ am) ⟨_,rfl,_,rfl,ixL (.of hh) (qZ om) ⟨_,_,rfl,rfl,?_⟩⟩⟩
   have:decide ((h a:Int)<(h o:Int))=decide (h a<h o):=by
    by_cases z:h a<h o
    ·rw[decide_eq_true z];exact decide_eq_true (by omega)
    ·rw[decide_eq_false z];exact decide_eq_false (by omega)
   rw[this]
   exact q
  ·rw[decide_eq_false c2,gy] at q
   exact bB (decide_eq_false c2) q
def aKm (K:ae):Sp:=λvs H Q _=>∃(F hl:Addr) (ls:List Addr) (m N c:Nat) (f:Nat->Nat->Int) (h:Nat->Nat),vs=[.ref F, .ref hl, .int (c:Int)]/\Mt H F ls (m+1) (N+1) f/\H hl=some (.lst (hdL m h))/\(∀i j,(f i j).natAbs<2 ^ 400)/\c<=N/\m<=100/\(∃i,i<m/\0<f i c) /\
 ∀r H',Same H H'->r<m->0<f r c->(∀i,i<m->0<f i c->Sh.Le (λi=>f i N) (λi=>f i c) h r i)->Q (.int (r:Int)) H'
theorem aKe:∀vs H Q E,aKm K vs H Q E->jH K (aKT K) { nx:=λ_ H'=>Q .non H',rt:=Q } (bR ["rows","held","column","best","at","row"] vs) H:=by
 intro vs H Q E h
 obtain⟨F,hl,ls,m,N,c,f,h,rfl,M,hh,fb,cN,m1,⟨i0,hi0,pi0⟩,q⟩:=h
 refine⟨_,rfl,1,rfl,_,rfl, .inl ⟨F,_,rfl, .of M.top,λp hp=>?_⟩⟩
 rw[aFy]
 have ec:(ls.map V.ref).take ((ls.map V.ref).length - 1)=(ls.take m).map V.ref:=by rw[af,M.len,<- nk,Nat.add_sub_cancel]
 rw[ec]
 have mp:=aI hp (.lst ((ls.take m).map V.ref))
 have hp2:(upd H p (.lst ((ls.take m).map V.ref))) p=some (.lst ((ls.take m).map V.ref)):=aG
 have M:=M.same mp
 have hh:=mp _ _ hh
 generalize upd H p (.lst ((ls.take m).map V.ref))=G at *
 have ll:((ls.take m).map V.ref).length=m:=by rw[af,b9,M.len];omega
 refine⟨p,true,rfl,⟨_, .of hp2⟩,?_⟩
 refine zZ (K:=K) (b:=true) (l:=p) (xs:=(ls.take m).map V.ref) (λi σ' H'=>i<=m/\Same G H'/\∃x3 x4 x5,σ'=[some (.ref F),some (.ref hl),some (.int (c:Int)),some x3,x4,x5]/\((x3 = .non/\∀j,j<i->f j c<=0)\/∃b,x3 = .int ((b:Nat):Int)/\b<i/\0<f b c/\∀j,j<i->0<f j c->Sh.Le (λi=>f i N) (λi=>f i c) h b j))
  ⟨av _,Same.refl _, .non,none,none,rfl, .inl ⟨rfl,λj hj=>by omega⟩⟩ (λi σ1 H1 _ ⟨_,s1,_⟩ => .of (s1 _ _ hp2)) (λi x σ1 H1 t hx ht ⟨_,s1,x3,x4,x5,es,inv⟩=>?_) λσ1 H1 ⟨_,s1,x3,x4,x5,es,inv⟩=>?_
 ·subst es
  have hi:i<m:=by have:=(ai.mp hx).1;rw[ll] at this;exact this
  obtain⟨l,g1,g2,g3⟩:=M.at (show i<m+1 by omega)
  have ex:x = .ref l:=by
   rw[bh,lu hi,g1] at hx
   exact(az hx).symm
  subst ex
  have mt:=aI ht (.tup [V.int (i:Int), .ref l])
  have s2:=s1.trans mt
  refine⟨t,_,rfl, .of aG,rfl,_,_,rfl,_,_,rfl,rfl,?_⟩
  generalize upd H1 t (.tup [V.int (i:Int), .ref l])=G1 at *
  refine⟨_,rfl,_,rfl,ixL (.of (s2 _ _ g3)) (kQ (show c<N+1 by omega)) ⟨_,_,rfl,rfl,_,rfl,nQ (λc1=>?_) λc1=>?_⟩⟩
  ·have pos:0<f i c:=of_decide_eq_true c1
   rcases inv with⟨rfl,no⟩ | ⟨b,rfl,hb,pb,le⟩
   ·refine⟨_,rfl, .inr ⟨rfl,_,rfl,cT rfl (cT rfl ⟨_,rfl,hi,s2,_,_,_,rfl, .inr ⟨i,rfl,by omega,pos,λj hj pj=>?_⟩⟩)⟩⟩
    by_cases e:j=i
    ·subst e;exact Sh.Le.refl _ _ _ _
    ·have:=no j (by omega);omega
   ·refine⟨_,rfl, .inr ⟨rfl,_,rfl,bB rfl ⟨_,rfl,_,rfl,_,rfl,_,rfl,_,rfl,F,hl,ls,m,N,c,i,b,f,h,rfl,M.same s2,s2 _ _ hh,fb,cN,hi,by omega,_,rfl,?_⟩⟩⟩
    show if tgt (λi=>f i N) (λi=>f i c) h i b=true then _ else _
    cases ct:tgt (λi=>f i N) (λi=>f i c) h i b with
    |true=>
     have L:=Sh.Le.of_yes (x:=λi=>f i N) (y:=λi=>f i c) (hd:=h) (a:=i) (b:=b) ct
     refine cT rfl ⟨_,rfl,hi,s2,_,_,_,rfl, .inr ⟨i,rfl,by omega,pos,λj hj pj=>?_⟩⟩
     by_cases e:j=i
     ·subst e;exact Sh.Le.refl _ _ _ _
     ·exact L.trans pos pb pj (le j (by omega) pj)
    |false=>
     have L:=Sh.Le.of_not (x:=λi=>f i N) (y:=λi=>f i c) (hd:=h) (a:=i) (b:=b) ct
     refine bB rfl ⟨hi,s2,_,_,_,rfl, .inr ⟨b,rfl,by omega,pb,λj hj pj=>?_⟩⟩
     by_cases e:j=i
     ·subst e;exact L
     ·exact le j (by omega) pj
  ·have neg:¬ 0<f i c:=of_decide_eq_false (dq _ |>.mp c1)
   refine bB rfl ⟨hi,s2,_,_,_,rfl,?_⟩
   rcases inv with⟨rfl,no⟩ | ⟨b,rfl,hb,pb,le⟩
   ·refine .inl ⟨rfl,λj hj=>?_⟩
    by_cases e:j=i
    ·subst e;omega
    ·exact no j (by omega)
   ·refine .inr ⟨b,rfl,by omega,pb,λj hj pj=>?_⟩
    by_cases e:j=i
    ·subst e;exact absurd pj neg
    ·exact le j (by omega) pj
 ·subst es
  rw[ll] at inv
  rcases inv with⟨rfl,no⟩ | ⟨b,rfl,hb,pb,le⟩
  ·have:=no i0 hi0;omega
  ·exact⟨_,rfl,q b H1 (mp.trans s1) hb pb le⟩
def tnF (f:Nat->Nat->Int) (r c:Nat) (b:Int) (i j:Nat):Int:=if i=r then f i j else(f i j*f r c - f i c*f r j) / b
def aKt (K:ae):Sp:=λvs H Q _=>∃(F:Addr) (ls:List Addr) (m N r c:Nat) (b:Int) (f:Nat->Nat->Int),vs=[.ref F, .int (r:Int), .int (c:Int), .int b]/\Mt H F ls m N f/\(∀i j,(f i j).natAbs<2 ^ 400)/\0<b/\b.natAbs<2 ^ 400/\r<m/\c<N/\m<=100/\N<=200 /\
 ∀ls' H',Mt H' F ls' m N (tnF f r c b)->SameX F H H'->Q .non H'
theorem aKd:∀vs H Q E,aKt K vs H Q E->aFm K { nx:=λ_ H'=>Q .non H',rt:=Q } (bR ["rows","at","column","bottom","pivot","other","factor"] vs) H:=by
 intro vs H Q E h
 obtain⟨F,ls,m,N,r,c,b,f,rfl,M,fb,b0,bb,rm,cN,m1,N2,q⟩:=h
 obtain⟨lp,p1,p2,p3⟩:=M.at rm
 have lF:lp≠F:=λe=>M.out (e ▸ au p1)
 refine⟨_,rfl,_,rfl,ixL (.of M.top) p2 ?_⟩
 refine⟨_,rfl,F,_,rfl, .inl (.of M.top),((ls.map V.ref).length:Int),rfl,by omega,by rw[af,M.len];omega,?_⟩
 rw[bu,af,M.len]
 refine cZ (lo:=0) (n:=m) (λi σ' H'=>i<=m/\SameX F H H'/\(∃x5 x6,σ'=[some (.ref F),some (.int (r:Int)),some (.int (c:Int)),some (.int b),some (.ref lp),x5,x6])/\∃ls',Mt H' F ls' m N (λa j=>if a<i then tnF f r c b a j else f a j)) ⟨av _,SameX.refl _ _,⟨_,_,rfl⟩,ls,M.congr λa j _ _=>by rw[if_neg (by omega)]⟩ (λi σ1 H1 hi ⟨_,sx1,⟨x5,x6,es⟩,ls1,M1⟩=>?_) λσ1 H1 ⟨_,sx1,_,ls1,M1⟩=>q ls1 H1 (M1.congr λa j ha _=>by rw[if_pos ha]) sx1
 subst es
 rw[kh]
 have hp3:=sx1 _ _ lF p3
 refine⟨_,rfl,_,rfl, .int (i:Int), .int (r:Int),av _,rfl,rfl,_,rfl,?_⟩
 rw[aCl]
 by_cases ir:i=r
 ·subst ir
  refine bB (by rw[decide_eq_true rfl];rfl) ⟨hi,sx1,⟨_,_,rfl⟩,ls1,M1.congr λa j _ _=>?_⟩
  show(if a<i then tnF f i c b a j else f a j)=if a<i+1 then tnF f i c b a j else f a j
  by_cases e:a=i
  ·subst e;rw[if_neg (by omega),if_pos (by omega)];unfold tnF;rw[if_pos rfl]
  ·by_cases e2:a<i
   ·rw[if_pos e2,if_pos (by omega)]
   ·rw[if_neg e2,if_neg (by omega)]
 ·refine cT (by rw[decide_eq_false ir];rfl) ?_
  obtain⟨l1,g1,g2,g3⟩:=M1.at hi
  have g3:H1 l1=some (.lst (mkR N (f i))):=by rw[g3];congr 2;exact eX λj _=>if_neg (by omega)
  refine aEM (t:=0) (si:=5) (sj:=2) (i:=i) (j:=c) M1 rfl rfl rfl hi cN ?_
  rw[if_neg (by omega)]
  refine⟨_,rfl,_,rfl,ixL (.of M1.top) g2 ⟨_,rfl,l1,lp,true,true,rfl,⟨_, .of g3⟩,⟨_, .of hp3⟩,λA hA=>?_⟩⟩
  have hv:∀H',SameX A (upd H1 A (.lst [])) H'->Same H1 H':=λH' sx=>cI hA sx
  refine bP [0,1] (mkR N (tnF f r c b i)) hA (by rw[bQ];omega) (Emits.cast (aBW (K:=K) (b1:=true) (b2:=true) (l1:=l1) (l2:=lp) (xs:=mkR N (f i)) (ys:=mkR N (f r)) (L:=λj=>[V.int (tnF f r c b i j)]) (by rw[bQ,bQ]) (λH' sx=>⟨.of (hv H' sx _ _ g3), .of (hv H' sx _ _ hp3)⟩) λj x y σ2 H2 t hx hy ht l2 ag2 sx2=>?_) (by rw[bQ,nI];rfl)) λσ2 H2 s2 hA2=>?_
  ·obtain⟨hj,rfl⟩:=tL hx
   obtain⟨_,rfl⟩:=tL hy
   have mt:=aI ht (.tup [V.int (f i j), .int (f r j)])
   have l6:σ2.length=6:=l2
   refine⟨(σ2.set 0 (some (.int (f i j)))).set 1 (some (.int (f r j))),by rw[df,df];exact l2,(ag2.trans (Agree.set (by decide) _)).trans (Agree.set (by decide) _),λNn hN=>⟨t,_,rfl, .of aG,rfl,_,_,rfl,_,_,rfl,rfl,hN⟩,cL λR hR=>?_⟩
   have t0:((σ2.set 0 (some (.int (f i j)))).set 1 (some (.int (f r j))))[0]?=some (some (.int (f i j))):=by rw[dv (by decide)];exact gK (by omega)
   have t1:((σ2.set 0 (some (.int (f i j)))).set 1 (some (.int (f r j))))[1]?=some (some (.int (f r j))):=gK (by rw[df];omega)
   have tk:∀k,2<=k->((σ2.set 0 (some (.int (f i j)))).set 1 (some (.int (f r j))))[k]?=σ2[k]?:=λk hk=>by rw[dv (by omega),dv (by omega)]
   have t2:=(tk 2 (by decide)).trans ((ag2 2 (by decide)).trans (show _=some (some (V.ref lp)) from rfl))
   have t3:=(tk 3 (by decide)).trans ((ag2 3 (by decide)).trans (show _=some (some (V.int (c:Int))) from rfl))
   have t4:=(tk 4 (by decide)).trans ((ag2 4 (by decide)).trans (show _=some (some (V.int (f i c))) from rfl))
   have t5:=(tk 5 (by decide)).trans ((ag2 5 (by decide)).trans (show _=some (some (V.int b)) from rfl))
   have hp4:=mt _ _ (hv _ sx2 _ _ hp3)
   refine⟨_,t0,_,t2,_,t3,ixL (.of hp4) (kQ cN) ⟨.inr ⟨big (fb _ _),big (fb _ _)⟩,_,t4,_,t1, .inr ⟨big (fb _ _),big (fb _ _)⟩,_,_,rfl,rfl,_,t5,_,_,rfl,rfl,⟨b0,big bb⟩,?_⟩⟩
   have:=hR _ (Same.refl _)
   unfold tnF at this
   rw[if_neg ir] at this
   exact this
  ·have hT:=s2 _ _ M1.top
   have nA:A≠F:=λe=>by rw[e,M1.top] at hA;cases hA
   refine⟨_,rfl,_,rfl,F,_,(i:Int),i,rfl,rfl,hT,?_,hi,(sx1.trans s2.x).trans (SameX.put _),⟨_,_,rfl⟩,ls1.set i A,?_⟩
   ·rw[af,M1.len]
    unfold ixN
    rw[if_pos (by omega),if_pos (by omega),bu]
   ·have nF:∀k l,(ls1.set i A)[k]?=some l->l≠F:=λk l e z=>by
     rw[v9] at e
     split at e
     ·split at e
      ·exact nA ((az e).trans z)
      ·cases e
     ·exact M1.out (z ▸ au e)
    refine⟨by rw[aG,List.map_set],by rw[df];exact M1.len,λk l e=>?_,λz=>?_⟩
    ·rw[bC (nF k l e)]
     rw[v9] at e
     split at e
     ·rename_i hk
      subst hk
      split at e
      ·cases e
       rw[hA2]
       congr 2
       exact eX λj _=>(if_pos (by omega)).symm
      ·cases e
     ·rename_i hk
      rw[s2 _ _ (M1.row k l e)]
      congr 2
      refine eX λj _=>?_
      show(if k<i then tnF f r c b k j else f k j)=if k<i+1 then tnF f r c b k j else f k j
      by_cases e2:k<i
      ·rw[if_pos e2,if_pos (by omega)]
      ·rw[if_neg e2,if_neg (by omega)]
    ·obtain⟨k,hk⟩:=fh.mp z
     exact nF k F hk rfl
end
def mN (n:Nat):Nat:=(dA n).length
def kN (n:Nat):Nat:=(fW n).length
def stA (n j:Nat):List Nat×Int:=(fW n).getD j ([],0)
def prA (n p:Nat):Nat×Nat:=(dA n).getD p (0,0)
def coT (n j p:Nat):Int:=if prt (stA n j).1 (prA n p).1 (prA n p).2=true then(stA n j).2 else 0
def obT (n j:Nat):Int:=-2*(stA n j).2
def wyT (T:List (List Int)) (n p:Nat):Int:=if p<mN n then at2 T (prA n p).1 (prA n p).2 else 0
def AT (T:List (List Int)) (n:Nat):Nat->Sh.Vec:=Sh.A0 (mN n) (kN n) (coT n) (obT n) (wyT T n)
theorem n36 {P:Nat->Prop}(h3:P 3)(h4:P 4)(h5:P 5)(h6:P 6):∀n,3<=n->n<=6->P n:=λn a b=>by
 match n,a,b with
 |3,_,_=>exact h3
 |4,_,_=>exact h4
 |5,_,_=>exact h5
 |6,_,_=>exact h6
def lpB (n:Nat):Bool:=decide (dA n).Nodup && decide (mN n<=15) && decide (1<=mN n) && (dA n).all (λe=>decide (e.1<e.2) && decide (e.2<n)) && decide (kN n<=40) && (fW n).all (λe=>decide (e.2=1) || decide (e.2 = -1))
theorem aLG:∀n,3<=n->n<=6->lpB n=true:=n36 (by decide+kernel) (by decide+kernel) (by decide+kernel) (by decide+kernel)
theorem nH {n:Nat}(h3:3<=n)(h6:n<=6):(dA n).Nodup/\mN n<=15/\1<=mN n/\(∀e∈dA n,e.1<e.2/\e.2<n)/\kN n<=40/\∀e∈fW n,e.2=1\/e.2 = -1:=by
 have h:=aLG n h3 h6
 unfold lpB at h
 simp only[b7,decide_eq_true_eq,bw,qg] at h
 obtain⟨⟨⟨⟨⟨h1,h2⟩,h2'⟩,h3⟩,h4⟩,h5⟩:=h
 exact⟨h1,h2,h2',h3,h4,h5⟩
theorem uS {a b:Nat}{f:Nat->Int}:mkR a f++mkR b (λj=>f (a+j))=mkR (a+b) f:=by
 unfold mkR
 rw[List.range_add,bz,dr]
 rfl
theorem aCE {f:Nat->Int}:mkR 1 f=[V.int (f 0)]:=rfl
theorem aIG {T:List (List Int)}{n p:Nat}(hp:p<mN n):mkR (kN n) (λj=>coT n j p)++mkR (mN n) (λq=>if q=p then 1 else 0)++[V.int (at2 T (prA n p).1 (prA n p).2)]=mkR (kN n+mN n+1) (λj=>AT T n j p):=by
 rw[<- uS (a:=kN n+mN n) (b:=1),<- uS (a:=kN n) (b:=mN n),aCE]
 congr 1
 ·congr 1
  ·exact eX λj hj=>(Sh.A0_step hj hp).symm
  ·refine eX λq hq=>?_
   show _=Sh.A0 (mN n) (kN n) (coT n) (obT n) (wyT T n) (kN n+q) p
   rw[Sh.A0_slack hq]
   show _=if p=q then(1:Int) else 0
   by_cases c:q=p
   ·rw[if_pos c,if_pos c.symm]
   ·rw[if_neg c,if_neg (iw c)]
 ·congr 2
  show _=Sh.A0 (mN n) (kN n) (coT n) (obT n) (wyT T n) (kN n+mN n+0) p
  rw[AA,Sh.A0_wy hp]
  unfold wyT
  rw[if_pos hp]
theorem aKF {T:List (List Int)}{n:Nat}:mkR (kN n) (λj=>obT n j)++mkR (mN n) (λ_=>0)++[V.int 0]=mkR (kN n+mN n+1) (λj=>AT T n j (mN n)):=by
 rw[<- uS (a:=kN n+mN n) (b:=1),<- uS (a:=kN n) (b:=mN n),aCE]
 congr 1
 ·congr 1
  ·exact eX λj hj=>(Sh.A0_ob hj).symm
  ·refine eX λq hq=>?_
   show _=Sh.A0 (mN n) (kN n) (coT n) (obT n) (wyT T n) (kN n+q) (mN n)
   rw[Sh.A0_slack hq]
   exact(if_neg (by omega)).symm
 ·congr 2
  exact(Sh.A0_w0).symm
theorem dU {α:Type}{l:List α}{i:Nat}{x d:α}(h:l[i]?=some x):l.getD i d=x:=by rw[ak,h];rfl
section
variable {K:ae}
theorem Mt.more {H H':Hp}{F F' l:Addr}{ls:List Addr}{m N:Nat}{f:Nat->Nat->Int}(M:Mt H F ls m N f)(s:∀b o,b∈ls->H b=some o->H' b=some o)(hF':H' F'=some (.lst (ls.map V.ref++[.ref l])))(hl:H' l=some (.lst (mkR N (f m))))(out:F'∉ls)(ol:F'≠l):Mt H' F' (ls++[l]) (m+1) N f:=by
 refine⟨by rw[bz];exact hF',by rw[bc,M.len];rfl,λi a e=>?_,λz=>?_⟩
 ·by_cases hi:i<ls.length
  ·rw[c8 hi] at e
   exact s _ _ (au e) (M.row i a e)
  ·rw[c5 (by omega)] at e
   have:i - ls.length=0:=by
    rcases hk:i - ls.length with _ | k
    ·rfl
    ·rw[hk] at e;cases e
   rw[this] at e
   obtain rfl:l=a:=az e
   rw[hl,show i=m by have:=M.len;omega]
 ·rcases du.mp z with z | z
  ·exact out z
  ·exact ol (dw.mp z)
def aKP (K:ae):Sp:=λvs H Q _=>∃(v:V) (P S:Addr) (ps ss:List V) (T:List (List Int)) (n:Nat),vs=[v, .ref P, .ref S]/\Sh K H (uZ T) v/\Quad T n/\3<=n/\n<=6/\H P=some (.lst ps)/\Rows K H ps (prN (dA n))/\H S=some (.lst ss)/\RowsS K H ss (fW n) /\
 ∀F ls H',Same H H'->H F=none->Mt H' F ls (mN n+1) (kN n+mN n+1) (λi j=>AT T n j i)->Q (.ref F) H'
theorem aJI:∀vs H Q E,aKP K vs H Q E->mH K (aHg K) { nx:=λ_ H'=>Q .non H',rt:=Q } (bR ["table","pairs","steps","rows","i","j","taken"] vs) H:=by
 intro vs H Q E h
 obtain⟨v,P,S,ps,ss,T,n,rfl,hT,qT,n3,n6,hP,rP,hS,rS,q⟩:=h
 obtain⟨nd,m15,m1,pij,k40,sg⟩:=nH n3 n6
 have pl:ps.length=mN n:=by rw[rP.1,jS];rfl
 have sl:ss.length=kN n:=rS.1
 refine⟨show 0<=bx by decide,λF hF=>?_⟩
 have mF:=aI hF (.lst [])
 have hF1:(upd H F (.lst [])) F=some (.lst []):=aG
 generalize upd H F (.lst [])=G at *
 refine⟨_,rfl,P,rfl, .inl ⟨⟨_, .of (mF _ _ hP)⟩,?_⟩⟩
 refine bJ (K:=K) (a:=P) (xs:=ps) (λi σ' H'=>i<=mN n/\Same H H'/\(∃x4 x5 x6,σ'=[some v,some (.ref P),some (.ref S),some (.ref F),x4,x5,x6])/\∃ls,Mt H' F ls i (kN n+mN n+1) (λi j=>AT T n j i)) ⟨av _,mF,⟨_,_,_,rfl⟩,[],hF1,rfl,(λi l e=>by cases e),(λz=>by cases z)⟩ (λi σ1 H1 _ ⟨_,s1,_⟩ => .of (s1 _ _ hP)) (λi x σ1 H1 hx ⟨_,s1,⟨x4,x5,x6,es⟩,ls,M⟩=>?_) λσ1 H1 ⟨_,s1,⟨x4,x5,x6,es⟩,ls,M⟩=>?_
 ·subst es
  have hi:i<mN n:=by have:=(ai.mp hx).1;omega
  obtain⟨e,b,he,rfl,hb⟩:=rC (rP.same s1) hx
  obtain⟨g1,g2⟩:=pij e (au he)
  have ep:prA n i=e:=dU he
  refine⟨b,_,rfl,hb,rfl,dJ e.1,[dJ e.2],rfl,dJ e.2,[],rfl,rfl,?_⟩
  refine⟨_,rfl,S,rfl, .inl ⟨⟨_, .of (s1 _ _ hS)⟩,λA hA=>?_⟩⟩
  have hv:∀H',SameX A (upd H1 A (.lst [])) H'->Same H1 H':=λH' sx=>cI hA sx
  refine bP [0,1] (mkR (kN n) (λj=>coT n j i)) hA (by rw[bQ];omega) (Emits.cast (lW (K:=K) (a:=S) (xs:=ss) (L:=λj=>[V.int (coT n j i)]) (λH' sx => .of (hv H' sx _ _ (s1 _ _ hS))) λj y σ2 H2 hy l2 ag2 sx2=>?_) (by rw[sl,nI];rfl)) λσ2 H2 s2 hA2=>?_
  ·obtain⟨st,b2,q2,hst,rfl,hb2,hq2⟩:=aAa (rS.same (s1.trans (hv _ sx2))) hy
   have est:stA n j=st:=dU hst
   have l4:σ2.length=4:=l2
   refine⟨(σ2.set 0 (some (.ref q2))).set 1 (some (.int st.2)),by rw[df,df];exact l2,(ag2.trans (Agree.set (by decide) _)).trans (Agree.set (by decide) _),λNn hN=>⟨b2,_,rfl,hb2,rfl,_,_,rfl,_,_,rfl,rfl,hN⟩,cL λR hR=>?_⟩
   have t0:((σ2.set 0 (some (.ref q2))).set 1 (some (.int st.2)))[0]?=some (some (.ref q2)):=by rw[dv (by decide)];exact gK (by omega)
   have t1:((σ2.set 0 (some (.ref q2))).set 1 (some (.int st.2)))[1]?=some (some (.int st.2)):=gK (by rw[df];omega)
   have tk:∀k,2<=k->((σ2.set 0 (some (.ref q2))).set 1 (some (.int st.2)))[k]?=σ2[k]?:=λk hk=>by rw[dv (by omega),dv (by omega)]
   have t2:=(tk 2 (by decide)).trans ((ag2 2 (by decide)).trans (show _=some (some (dJ e.1)) from rfl))
   have t3:=(tk 3 (by decide)).trans ((ag2 3 (by decide)).trans (show _=some (some (dJ e.2)) from rfl))
   refine⟨_,t0,_,t2,_,t3,q2,st.1,e.1,e.2,rfl,hq2,_,rfl,?_⟩
   have r:=hR _ (Same.refl _)
   unfold coT at r
   rw[est,ep] at r
   refine nQ (λc=>⟨_,t1,?_⟩) λc=>?_
   ·rw[if_pos c] at r;exact r
   ·rw[if_neg c] at r;exact r
  ·have hF2:=s2 _ _ M.top
   have s12:=s1.trans s2
   refine⟨_,rfl, .inl ⟨rfl,_, .of hF2⟩,_,rfl,_,rfl,P,rfl, .inl ⟨⟨_, .of (s12 _ _ hP)⟩,λB hB=>?_⟩⟩
   have hv2:∀H',SameX B (upd H2 B (.lst [])) H'->Same H2 H':=λH' sx=>cI hB sx
   refine bP [0] (mkR (mN n) (λq=>if q=i then 1 else 0)) hB (by rw[bQ];omega) (Emits.cast (fQ (K:=K) (a:=P) (xs:=ps) (j:=0) (L:=λj=>[V.int (if j=i then 1 else 0)]) (by decide) (by show 0<3;decide) (λH' sx => .of (hv2 H' sx _ _ (s12 _ _ hP))) λj y σ3 H3 hy l3 ag3 t0 sx3 _=>?_) (by rw[pl,nI];rfl)) λσ3 H3 s3 hB3=>?_
   ·obtain⟨e',b',he',rfl,hb'⟩:=rC (rP.same (s12.trans (hv2 _ sx3))) hy
    have t1:σ3[1]?=some (some (dJ e.1)):=(ag3 1 (by decide)).trans rfl
    have t2:σ3[2]?=some (some (dJ e.2)):=(ag3 2 (by decide)).trans rfl
    refine cL λR hR=>⟨_,t0,_,t1,_,t2,show 2<=bx by decide,λt ht=>?_⟩
    have mt:=aI ht (.tup [dJ e.1,dJ e.2])
    refine⟨.tup ([(e'.1:Int),(e'.2:Int)].map Dt.int), .tup ([(e.1:Int),(e.2:Int)].map Dt.int),eJ _,⟨b',_,rfl,mt.tup hb',ShL.ints [(e'.1:Int),(e'.2:Int)]⟩,⟨t,_,rfl, .of aG,ShL.ints [(e.1:Int),(e.2:Int)]⟩,_,rfl,?_⟩
    rw[oE]
    have r:=hR _ mt
    have iff:([(e'.1:Int),(e'.2:Int)]=[(e.1:Int),(e.2:Int)])↔j=i:=by
     constructor
     ·intro z
      have z1:(e'.1:Int)=e.1:=(Ad z).1
      have z2:(e'.2:Int)=e.2:=(Ad (Ad z).2).1
      have ee:e'=e:=by
       obtain⟨a1,a2⟩:=e'
       obtain⟨b1,b2⟩:=e
       have z1:(a1:Int)=b1:=z1
       have z2:(a2:Int)=b2:=z2
       rw[show a1=b1 by omega,show a2=b2 by omega]
      obtain⟨h1,h2⟩:=ai.mp he'
      obtain⟨h3,h4⟩:=ai.mp he
      exact(ou nd).mp (h2.trans (ee.trans h4.symm))
     ·intro z
      subst z
      rw[he] at he'
      rw[az he']
    refine nQ (λc=>?_) λc=>?_
    ·rw[if_pos (iff.mp (of_decide_eq_true c))] at r;exact r
    ·rw[if_neg λz=>c (decide_eq_true (iff.mpr z))] at r;exact r
   ·have hA3:=s3 _ _ hA2
    refine .inl ⟨A,B,_,_,rfl,rfl,hA3,hB3,?_,λC hC=>?_⟩
    ·rw[bQ,bQ];exact c9 (show _<=100 by omega) (by decide)
    have mC:=aI hC (.lst (mkR (kN n) (λj=>coT n j i)++mkR (mN n) (λq=>if q=i then 1 else 0)))
    have s123:=(s12.trans s3).trans mC
    refine pM (t:=0) (si:=4) (sj:=5) rfl rfl rfl (hT.same s123) qT (by omega) g2 ⟨show 1<=bx by decide,λD hD=>?_⟩
    have mD:=aI hD (.lst [V.int (at2 T e.1 e.2)])
    have hC2:=mD _ _ (show(upd H3 C (.lst (mkR (kN n) (λj=>coT n j i)++mkR (mN n) (λq=>if q=i then 1 else 0)))) C=_ from aG)
    refine .inl ⟨C,D,_,_,rfl,rfl,hC2,aG,?_,λR hR=>?_⟩
    ·rw[bc,bQ,bQ];exact c9 (show _<=100 by simp;omega) (by decide)
    have eR:=aIG (T:=T) hi
    rw[ep] at eR
    rw[eR]
    have mR:=aI hR (.lst (mkR (kN n+mN n+1) (λj=>AT T n j i)))
    have sAll:=((((s2.trans s3).trans mC).trans mD).trans mR)
    have hFn:=sAll _ _ M.top
    have nR:R≠F:=λz=>by
     have h2:=(((s2.trans s3).trans mC).trans mD) _ _ M.top
     rw[<- z,hR] at h2
     cases h2
    refine⟨F,_,_,rfl,rfl,hFn,bo (show _<=100 by rw[af,M.len];omega) (by decide),hi,cM hF (s1.trans sAll),⟨_,_,_,rfl⟩,ls++[R],M.more (λb' o hb' e'=>?_) aG ?_ M.out (iw nR)⟩
    ·rw[bC (show b'≠F from λz=>M.out (z ▸ hb'))]
     exact sAll _ _ e'
    ·rw[bC nR]
     exact aG
 ·subst es
  rw[pl] at M
  refine⟨_,rfl,_,rfl,S,rfl, .inl ⟨⟨_, .of (s1 _ _ hS)⟩,λA hA=>?_⟩⟩
  have hv:∀H',SameX A (upd H1 A (.lst [])) H'->Same H1 H':=λH' sx=>cI hA sx
  refine bP [0,1] (mkR (kN n) (λj=>obT n j)) hA (by rw[bQ];omega) (Emits.cast (lW (K:=K) (a:=S) (xs:=ss) (L:=λj=>[V.int (obT n j)]) (λH' sx => .of (hv H' sx _ _ (s1 _ _ hS))) λj y σ2 H2 hy l2 ag2 sx2=>?_) (by rw[sl,nI];rfl)) λσ2 H2 s2 hA2=>?_
  ·obtain⟨st,b2,q2,hst,rfl,hb2,hq2⟩:=aAa (rS.same (s1.trans (hv _ sx2))) hy
   have est:stA n j=st:=dU hst
   have l4:σ2.length=2:=l2
   refine⟨(σ2.set 0 (some (.ref q2))).set 1 (some (.int st.2)),by rw[df,df];exact l2,(ag2.trans (Agree.set (by decide) _)).trans (Agree.set (by decide) _),λNn hN=>⟨b2,_,rfl,hb2,rfl,_,_,rfl,_,_,rfl,rfl,hN⟩,cL λR hR=>?_⟩
   have t1:((σ2.set 0 (some (.ref q2))).set 1 (some (.int st.2)))[1]?=some (some (.int st.2)):=gK (by rw[df];omega)
   refine⟨2,rfl,_,t1, .inl (.inl ⟨by decide,by decide⟩),?_⟩
   have r:=hR _ (Same.refl _)
   unfold obT at r
   rw[est] at r
   exact r
  ·have s12:=s1.trans s2
   refine⟨_,rfl,P,rfl, .inl ⟨⟨_, .of (s12 _ _ hP)⟩,λB hB=>?_⟩⟩
   have hv2:∀H',SameX B (upd H2 B (.lst [])) H'->Same H2 H':=λH' sx=>cI hB sx
   refine bP [0] (mkR (mN n) (λ_=>0)) hB (by rw[bQ];omega) (Emits.cast (fQ (K:=K) (a:=P) (xs:=ps) (j:=0) (L:=λj=>[V.int 0]) (by decide) (by show 0<1;decide) (λH' sx => .of (hv2 H' sx _ _ (s12 _ _ hP))) λj y σ3 H3 hy l3 ag3 t0 sx3 _=>cL λR hR=>hR _ (Same.refl _)) (by rw[pl,nI];rfl)) λσ3 H3 s3 hB3=>?_
   have hA3:=s3 _ _ hA2
   refine .inl ⟨A,B,_,_,rfl,rfl,hA3,hB3,?_,λC hC=>?_⟩
   ·rw[bQ,bQ];exact c9 (show _<=100 by omega) (by decide)
   have mC:=aI hC (.lst (mkR (kN n) (λj=>obT n j)++mkR (mN n) (λ_=>0)))
   refine⟨show 1<=bx by decide,λD hD=>?_⟩
   have mD:=aI hD (.lst [V.int 0])
   have hC2:=mD _ _ (show(upd H3 C (.lst (mkR (kN n) (λj=>obT n j)++mkR (mN n) (λ_=>0)))) C=_ from aG)
   refine .inl ⟨C,D,_,_,rfl,rfl,hC2,aG,?_,λR hR=>?_⟩
   ·rw[bc,bQ,bQ];exact c9 (show _<=100 by simp;omega) (by decide)
   rw[aKF (T:=T)]
   have mR:=aI hR (.lst (mkR (kN n+mN n+1) (λj=>AT T n j (mN n))))
   refine⟨show 1<=bx by decide,λL hL=>?_⟩
   have mL:=aI hL (.lst [V.ref R])
   have sAll:=(((((s2.trans s3).trans mC).trans mD).trans mR).trans mL)
   refine .inl ⟨F,L,_,_,rfl,rfl,sAll _ _ M.top,aG,?_,λF4 hF4=>?_⟩
   ·rw[af,M.len];exact c9 (show _<=100 by simp;omega) (by decide)
   have m4:=aI hF4 (.lst (ls.map V.ref++[V.ref R]))
   have hR2:=mL _ _ (show(upd (upd (upd H3 C (.lst (mkR (kN n) (λj=>obT n j)++mkR (mN n) (λ_=>0)))) D (.lst [V.int 0])) R (.lst (mkR (kN n+mN n+1) (λj=>AT T n j (mN n))))) R=_ from aG)
   refine q F4 (ls++[R]) _ ((s1.trans sAll).trans m4) ((s1.trans sAll).free hF4) (M.more (λb' o _ e'=>m4 _ _ (sAll _ _ e')) aG (m4 _ _ hR2) (λz=>?_) λz=>?_)
   ·obtain⟨k,hk⟩:=fh.mp z
    have:=sAll _ _ (M.row k _ hk)
    rw[hF4] at this
    cases this
   ·rw[z,hR2] at hF4
    cases hF4
end
abbrev RT (T:List (List Int)) (n:Nat):(Nat->Nat)->Nat->Nat->Int:=Sh.R (AT T n) (mN n)
abbrev dT (T:List (List Int)) (n:Nat):(Nat->Nat)->Int:=Sh.dd (AT T n) (mN n)
abbrev NN (n:Nat):Nat:=kN n+mN n
abbrev OkT (T:List (List Int)) (n:Nat):(Nat->Nat)->Prop:=Sh.Ok (AT T n) (mN n) (NN n)
def xR (n p:Nat):Int:=if(prA n p).2=(prA n p).1+1\/((prA n p).1=0/\(prA n p).2=n - 1) then 1 else 0
def unB (n:Nat):Bool:=(aq (kN n)).all λj=>decide (0<=obT n j+Sh.sumN (mN n) λp=>xR n p*coT n j p)
theorem aLu:∀n,3<=n->n<=6->unB n=true:=n36 (by decide+kernel) (by decide+kernel) (by decide+kernel) (by decide+kernel)
theorem aEF {n j:Nat}(n3:3<=n)(n6:n<=6):-1<=(stA n j).2/\(stA n j).2<=1:=by
 unfold stA
 rw[ak]
 cases h:(fW n)[j]? with
 |none=>exact⟨by decide,by decide⟩
 |some e=>
  show -1<=e.2/\e.2<=1
  rcases(nH n3 n6).2.2.2.2.2 e (au h) with z | z <;> omega
theorem aIb {n:Nat}(n3:3<=n)(n6:n<=6)(j c:Nat):-2<=coT n j c/\coT n j c<=2:=by
 have:=aEF (j:=j) n3 n6
 unfold coT
 split <;> omega
theorem aHF {n:Nat}(n3:3<=n)(n6:n<=6)(j:Nat):-2<=obT n j/\obT n j<=2:=by
 have:=aEF (j:=j) n3 n6
 unfold obT
 omega
theorem aIR {n p:Nat}(n3:3<=n)(n6:n<=6)(hp:p<mN n):(prA n p).1<(prA n p).2/\(prA n p).2<n:=by
 have h:(dA n)[p]?=some ((dA n)[p]'hp):=ah hp
 have:prA n p=(dA n)[p]'hp:=dU h
 rw[this]
 exact(nH n3 n6).2.2.2.1 _ (f6 hp)
theorem aGC {T:List (List Int)}{n:Nat}(n3:3<=n)(n6:n<=6)(b:Bs T n)(p:Nat):0<=wyT T n p/\wyT T n p<=1000000:=by
 unfold wyT
 split
 ·rename_i h
  obtain⟨h1,h2⟩:=aIR n3 n6 h
  exact b _ _ (by omega) h2
 ·exact⟨by decide,by decide⟩
theorem aCn {T:List (List Int)}{n:Nat}(n3:3<=n)(n6:n<=6)(b:Bs T n)(h:Nat->Nat)(i j:Nat):(RT T n h i j).natAbs<2 ^ 400:=Sh.R_bound (nH n3 n6).2.1 (aIb n3 n6) (aHF n3 n6) (aGC n3 n6 b)
theorem oY {T:List (List Int)}{n:Nat}(n3:3<=n)(n6:n<=6)(b:Bs T n)(h:Nat->Nat):(dT T n h).natAbs<2 ^ 400:=Sh.dd_bound (nH n3 n6).2.1 (aIb n3 n6) (aHF n3 n6) (aGC n3 n6 b)
theorem aLF {T:List (List Int)}{n:Nat}(n3:3<=n)(n6:n<=6)(b:Bs T n):OkT T n (Sh.h0 (kN n)):=Sh.ok0 λp _=>(aGC n3 n6 b p).1
theorem unT {T:List (List Int)}{n c:Nat}{h:Nat->Nat}(n3:3<=n)(n6:n<=6)(ok:OkT T n h)(hc:c<NN n)(neg:RT T n h (mN n) c<0):∃i,i<mN n/\0<RT T n h i c:=by
 refine Sh.unb (x:=xR n) ok (λp _=>by unfold xR;split <;> decide) (λj hj=>?_) hc neg
 have:=bw.mp (aLu n n3 n6) j (da.mpr hj)
 exact of_decide_eq_true this
section
variable {K:ae}
theorem aGl {m r c:Nat}{h:Nat->Nat}(hr:r<m):(hdL m h).set r (dJ c)=hdL m (Sh.put h r c):=by
 apply v8
 intro i
 rw[v9]
 by_cases hi:i<m
 ·by_cases e:r=i
  ·rw[if_pos e,if_pos (by rw[gA];omega),qZ hi]
   subst e
   unfold Sh.put
   rw[if_pos rfl]
  ·rw[if_neg e,qZ hi,qZ hi]
   unfold Sh.put
   rw[if_neg (iw e)]
 ·have n1:(hdL m (Sh.put h r c))[i]?=none:=rk (by rw[gA];omega)
  rw[n1,if_neg (by omega)]
  exact rk (by rw[gA];omega)
theorem Mt.nohl {H:Hp}{F hl:Addr}{ls:List Addr}{m k:Nat}{f:Nat->Nat->Int}{h:Nat->Nat}(M:Mt H F ls (m+1) (k+m+1) f)(hh:H hl=some (.lst (hdL m h))):hl≠F/\hl∉ls:=by
 refine⟨λe=>?_,λz=>?_⟩
 ·rw[e,M.top] at hh
  have:=congrArg ze (HO.lst.inj (az hh))
  rw[af,M.len,gA] at this
  omega
 ·obtain⟨i,hi⟩:=fh.mp z
  rw[M.row i hl hi] at hh
  have:=congrArg ze (HO.lst.inj (az hh))
  rw[bQ,gA] at this
  omega
def aLj (K:ae):Sp:=λvs H Q _=>∃(F hl:Addr) (ls:List Addr) (T:List (List Int)) (n:Nat),vs=[.ref F, .ref hl]/\3<=n/\n<=6/\Bs T n/\Mt H F ls (mN n+1) (kN n+mN n+1) (λi j=>AT T n j i)/\H hl=some (.lst (hdL (mN n) (Sh.h0 (kN n)))) /\
 ∀h ls' H',OkT T n h->(∀j,j<NN n->0<=RT T n h (mN n) j)->Mt H' F ls' (mN n+1) (kN n+mN n+1) (RT T n h)->H' hl=some (.lst (hdL (mN n) h))->(∀b o,b≠F->b≠hl->H b=some o->H' b=some o)->Q (.int (dT T n h)) H'
theorem aJS:∀vs H Q E,aLj K vs H Q E->aDu K (aJE K) (aKm K) (aKt K) { nx:=λ_ H'=>Q .non H',rt:=Q } (bR ["rows","held","bottom","column","at"] vs) H:=by
 intro vs H Q E h
 obtain⟨F,hl,ls,T,n,rfl,n3,n6,bT,M,hh,q⟩:=h
 obtain⟨nd,m15,m1,pij,k40,sg⟩:=nH n3 n6
 have ok0:=aLF n3 n6 bT
 have M:Mt H F ls (mN n+1) (kN n+mN n+1) (RT T n (Sh.h0 (kN n))):=M.congr λi j hi hj=>(Sh.R0 (by omega)).symm
 let Col:(Nat->Nat)->V->Prop:=λh x=>(x = .non/\∀j,j<NN n->0<=RT T n h (mN n) j)\/∃c:Nat,x = .int (c:Int)/\c<NN n/\RT T n h (mN n) c<0/\∀j,j<c->0<=RT T n h (mN n) j
 let W:Nat->St->Hp->Prop:=λk σ' H'=>∃(h:Nat->Nat) (ls':List Addr) (x3:V) (x4:Option V),Sh.Rem (AT T n) (mN n) (NN n) k h/\OkT T n h/\Mt H' F ls' (mN n+1) (kN n+mN n+1) (RT T n h)/\H' hl=some (.lst (hdL (mN n) h))/\(∀b o,b≠F->b≠hl->H b=some o->H' b=some o)/\σ'=[some (.ref F),some (.ref hl),some (.int (dT T n h)),some x3,x4]/\Col h x3
 have dd1:dT T n (Sh.h0 (kN n))=1:=Sh.dd0
 refine⟨_,rfl,F,ls,mN n,NN n,_,rfl,M,by show kN n+mN n<=100;omega,λH0 s0=>?_⟩
 have st:∀x3,Col (Sh.h0 (kN n)) x3->∃W:Nat->St->Hp->Prop,(∃m,W m [some (.ref F),some (.ref hl),some (.int 1),some x3,none] H0)/\∀m σ H',W m σ H'->bH (tOp pF (aD 3) (tC .non)) σ H' λb H1=>if b=true then ∃N:St->Hp->Prop,(∀σ' H',N σ' H'->∃m',m'<m/\W m' σ' H')/\(aP (bO (aY (aKm K) [] E0 (aC (aD 0) (aC (aD 1) (aC (aD 3) aQ)))) (aJ 4)) (aP (nG (aY (aKt K) [] E0 (aC (aD 0) (aC (aD 4) (aC (aD 3) (aC (aD 2) aQ)))))) (aP (bO (aD 3) (lJ (aD 1) (aD 4) eO)) (aP (bO (tOp (aZ K) (tOp (aZ K) (aD 0) (aD 4)) (aD 3)) (aJ 2)) (aP (bO (aY (aJE K) [] E0 (aC (aD 0) aQ)) (aJ 3)) aK))))) { nx:=N,rt:=Q,bk:=aP (cS (aD 2)) aK { nx:=λ_ H'=>Q .non H',rt:=Q },ct:=N } σ H1 else aP (cS (aD 2)) aK { nx:=λ_ H'=>Q .non H',rt:=Q } σ H1:=by
  intro x3 cx
  obtain⟨k0,rem0⟩:=ok0.rem
  refine⟨W,⟨k0,Sh.h0 (kN n),ls,x3,none,rem0,ok0,M.same s0,s0 _ _ hh,λb o _ _ e=>s0 _ _ e,by rw[dd1],cx⟩,?_⟩
  rintro k σ1 H1 ⟨h,ls1,y3,x4,rem,ok,M1,hh1,sa1,rfl,col⟩
  refine⟨_,rfl, .inr ⟨rfl,_,rfl,?_⟩⟩
  rcases col with⟨rfl,all⟩ | ⟨c,rfl,cN,neg,fst⟩
  ·exact bB rfl ⟨_,rfl,q h ls1 H1 ok all M1 hh1 sa1⟩
  ·refine cT rfl ⟨λσ' H'=>∃k',k'<k/\W k' σ' H',λσ' H' z=>z,?_⟩
   have fb:=aCn n3 n6 bT h
   refine⟨_,rfl,_,rfl,_,rfl,F,hl,ls1,mN n,NN n,c,RT T n h,h,rfl,M1,hh1,fb,ig cN,by omega,unT n3 n6 ok cN neg,λr H2 s2 rm pr le=>?_⟩
   refine⟨_,rfl,_,rfl,_,rfl,_,rfl,F,ls1,mN n+1,kN n+mN n+1,r,c,dT T n h,RT T n h,rfl,M1.same s2,fb,ok.d0,oY n3 n6 bT h,by omega,fj cN,by omega,by omega,λls3 H3 M3 sx3=>?_⟩
   have nh1:=Mt.nohl M1 hh1
   have hh3:H3 hl=some (.lst (hdL (mN n) h)):=sx3 _ _ nh1.1 (s2 _ _ hh1)
   have nh3:=Mt.nohl M3 hh3
   refine⟨_,rfl,_,rfl,_,rfl,hl,_,(r:Int),r,rfl,rfl,hh3,?_,?_⟩
   ·rw[gA]
    unfold ixN
    rw[if_pos (by omega),if_pos (by omega),bu]
   rw[show(V.int (c:Int))=dJ c from rfl,aGl rm]
   have st:Sh.Stp (AT T n) (mN n) (NN n) h (Sh.put h r c) c r:=⟨cN,rm,neg,fst,pr,λi hi pi=>le i hi pi,rfl⟩
   have ok':=ok.step st
   have M4:Mt (upd H3 hl (.lst (hdL (mN n) (Sh.put h r c)))) F ls3 (mN n+1) (kN n+mN n+1) (RT T n (Sh.put h r c)):=by
    have M5:Mt H3 F ls3 (mN n+1) (kN n+mN n+1) (RT T n (Sh.put h r c)):=M3.congr λi j hi hj=>by
     unfold tnF
     by_cases e:i=r
     ·subst e;rw[if_pos rfl];exact(Sh.R_row rm).symm
     ·rw[if_neg e]
      have z:=Sh.R_turn (c:=c) ok rm (show i<=mN n by omega) e (show j<=NN n by show j<=kN n+mN n;omega)
      show(RT T n h i j*RT T n h r c - RT T n h i c*RT T n h r j) / dT T n h=RT T n (Sh.put h r c) i j
      rw[de (RT T n h i j),<- z]
      exact jf _ (by have:=ok.d0;omega)
    exact⟨by rw[bC (iw nh3.1)];exact M5.top,M5.len,λi l e=>by rw[bC λz:l=hl=>nh3.2 (z ▸ au e)];exact M5.row i l e,M5.out⟩
   have hh4:(upd H3 hl (.lst (hdL (mN n) (Sh.put h r c)))) hl=some (.lst (hdL (mN n) (Sh.put h r c))):=aG
   have sa4:∀b o,b≠F->b≠hl->H b=some o->(upd H3 hl (.lst (hdL (mN n) (Sh.put h r c)))) b=some o:=λb o h1 h2 e=>by
    rw[bC h2]
    exact sx3 _ _ h1 (s2 _ _ (sa1 b o h1 h2 e))
   generalize upd H3 hl (.lst (hdL (mN n) (Sh.put h r c)))=G at *
   have ed:dT T n (Sh.put h r c)=RT T n (Sh.put h r c) r c:=by
    show Sh.dd _ _ _=Sh.R _ _ _ _ _
    rw[Sh.dd_put rm,Sh.R_row rm]
   refine aEM (t:=0) (si:=4) (sj:=3) (i:=r) (j:=c) M4 rfl rfl rfl (by omega) (fj cN) ?_
   rw[<- ed]
   obtain⟨k',rfl⟩:∃k',k=k'+1:=by
    cases k with
    |zero=>exact absurd ⟨c,r,st⟩ (rem _)
    |succ k'=>exact⟨k',rfl⟩
   have rem':=rem _ ⟨c,r,st⟩
   refine⟨_,rfl,F,ls3,mN n,NN n,_,rfl,M4,by show kN n+mN n<=100;omega,λH5 s5=>⟨λall=>?_,λc' c'N neg' fst'=>?_⟩⟩
   ·exact⟨k',by omega,_,ls3,_,_,rem',ok',M4.same s5,s5 _ _ hh4,λb o h1 h2 e=>s5 _ _ (sa4 b o h1 h2 e),rfl, .inl ⟨rfl,all⟩⟩
   ·exact⟨k',by omega,_,ls3,_,_,rem',ok',M4.same s5,s5 _ _ hh4,λb o h1 h2 e=>s5 _ _ (sa4 b o h1 h2 e),rfl, .inr ⟨c',rfl,c'N,neg',fst'⟩⟩
 exact⟨λall=>st .non (.inl ⟨rfl,all⟩),λc cN neg fst=>st (.int (c:Int)) (.inr ⟨c,rfl,cN,neg,fst⟩)⟩
end
def lo (i j:Int):Int×Int:=(i / gd i j,j / gd i j)
def qW (T:List (List Int)) (n:Nat) (h:Nat->Nat) (i:Nat):Bool:=decide (h i<kN n) && !decide (RT T n h i (NN n)=0)
def aJp (T:List (List Int)) (n:Nat) (h:Nat->Nat) (i:Nat):List Int×Int×Int:=((stA n (h i)).1.map Int.ofNat,lo ((stA n (h i)).2*RT T n h i (NN n)) (dT T n h))
def aDZ (T:List (List Int)) (n:Nat) (h:Nat->Nat):List (List Int×Int×Int):=((aq (mN n)).filter (qW T n h)).map (aJp T n h)
def xQ (T:List (List Int)) (n:Nat) (h:Nat->Nat) (p:Nat):Bool:=decide (0<RT T n h (mN n) (kN n+p))
def aJf (T:List (List Int)) (n:Nat) (h:Nat->Nat) (p:Nat):List Int:=[((prA n p).1:Int),((prA n p).2:Int),(lo (RT T n h (mN n) (kN n+p)) (dT T n h)).1,(lo (RT T n h (mN n) (kN n+p)) (dT T n h)).2]
def aKg (T:List (List Int)) (n:Nat) (h:Nat->Nat):List (List Int):=((aq (mN n)).filter (xQ T n h)).map (aJf T n h)
theorem aJN:∀n,3<=n->n<=6->decide (fW n).Nodup=true:=n36 (by decide+kernel) (by decide+kernel) (by decide+kernel) (by decide+kernel)
theorem aGu {n j:Nat}(hj:j<kN n):(fW n)[j]?=some (stA n j):=by
 have h:(fW n)[j]?=some ((fW n)[j]'hj):=ah hj
 rw[h]
 exact congrArg some (dU h).symm
theorem aHW {T:List (List Int)}{n:Nat}{h:Nat->Nat}(n3:3<=n)(n6:n<=6)(ok:OkT T n h){i j:Nat}(hi:i<mN n)(hj:j<mN n)(ki:h i<kN n)(kj:h j<kN n)(ne:i≠j):(stA n (h i)).1≠(stA n (h j)).1:=by
 intro e
 have nd:=of_decide_eq_true (aJN n n3 n6)
 have sg:=(nH n3 n6).2.2.2.2.2
 have hi2:=aGu ki
 have hj2:=aGu kj
 by_cases es:(stA n (h i)).2=(stA n (h j)).2
 ·have:stA n (h i)=stA n (h j):=AI e es
  rw[this] at hi2
  obtain⟨a1,a2⟩:=ai.mp hi2
  obtain⟨b1,b2⟩:=ai.mp hj2
  exact ne (ok.inj hi hj ((ou nd).mp (a2.trans b2.symm)))
 ·have op:(stA n (h i)).2 = -1*(stA n (h j)).2:=by
   rcases sg _ (au hi2) with a | a <;> rcases sg _ (au hj2) with b | b <;> rw[a,b] at es ⊢ <;> first | rfl | exact absurd rfl es
  refine Sh.no_opp ok hi hj (λc=>?_) ne
  show AT T n (h i) c = -1*AT T n (h j) c
  by_cases c1:c<mN n
  ·show Sh.A0 _ _ _ _ _ _ _ = -1*Sh.A0 _ _ _ _ _ _ _
   rw[Sh.A0_step ki c1,Sh.A0_step kj c1]
   unfold coT
   rw[e,op]
   split
   ·rfl
   ·rfl
  ·by_cases c2:c=mN n
   ·subst c2
    show Sh.A0 _ _ _ _ _ _ _ = -1*Sh.A0 _ _ _ _ _ _ _
    rw[Sh.A0_ob ki,Sh.A0_ob kj]
    unfold obT
    rw[op]
    omega
   ·show Sh.A0 _ _ _ _ _ _ _ = -1*Sh.A0 _ _ _ _ _ _ _
    rw[Sh.A0_out (by omega),Sh.A0_out (by omega)]
    rfl
theorem aFz {T:List (List Int)}{n:Nat}{h:Nat->Nat}(n3:3<=n)(n6:n<=6)(ok:OkT T n h):((aDZ T n h).map (·.1)).Nodup:=by
 unfold aDZ
 rw[dr]
 refine nr.mpr ((qk.filter (qW T n h)).imp_of_mem λ{a b} ha hb lt e=>?_)
 obtain⟨a1,a2⟩:=gf.mp ha
 obtain⟨b1,b2⟩:=gf.mp hb
 have a1:=da.mp a1
 have b1:=da.mp b1
 unfold qW at a2 b2
 rw[b7] at a2 b2
 exact aHW n3 n6 ok a1 b1 (of_decide_eq_true a2.1) (of_decide_eq_true b2.1) (by omega) (xG.mp e)
def RG {α:Type} (P:Addr->α->Prop) (xs:List V) (L:List α):Prop:=xs.length=L.length/\∀(i:Nat) (e:α),L[i]?=some e->∃b,xs[i]?=some (.ref b)/\P b e
section
variable {α:Type}{P P':Addr->α->Prop}{xs:List V}{L:List α}
theorem aCr:RG P [] []:=⟨rfl,λi e h=>by cases h⟩
theorem cC (h:RG P xs L)(f:∀b e,P b e->P' b e):RG P' xs L:=⟨h.1,λi e he=>let⟨b,e1,e2⟩:=h.2 i e he;⟨b,e1,f _ _ e2⟩⟩
theorem yW (h:RG P xs L){b:Addr}{e:α}(hb:P b e):RG P (xs++[.ref b]) (L++[e]):=by
 refine⟨by rw[bc,bc,h.1];rfl,λi e' he=>?_⟩
 by_cases hi:i<L.length
 ·rw[c8 hi] at he
  obtain⟨b',e1,e2⟩:=h.2 i e' he
  exact⟨b',by rw[c8 (by rw[h.1];exact hi)];exact e1,e2⟩
 ·rw[c5 (by omega)] at he
  have:i - L.length=0:=by
   rcases hk:i - L.length with _ | k
   ·rfl
   ·rw[hk] at he;cases he
  rw[this] at he
  cases he
  exact⟨b,by rw[c5 (by rw[h.1];omega),h.1,this];rfl,hb⟩
theorem aHk (h:RG P xs L){i:Nat}{x:V}(hx:xs[i]?=some x):∃e b,L[i]?=some e/\x = .ref b/\P b e:=by
 have hi:i<L.length:=by rw[<- h.1];exact(ai.mp hx).1
 obtain⟨b,e1,e2⟩:=h.2 i L[i] (ah hi)
 rw[hx] at e1
 exact⟨L[i],b,ah hi,az e1,e2⟩
end
theorem iL {i:Nat}{p:Nat->Bool}:(aq (i+1)).filter p=(aq i).filter p++if p i=true then[i] else[]:=by
 rw[xq,jk]
 congr 1
 by_cases c:p i=true
 ·rw[if_pos c,kc c];rfl
 ·rw[if_neg c,kd c];rfl
theorem oU {i:Nat}{p:Nat->Bool}:((aq i).filter p).length<=i:=by have:=dj p (aq i);rw[e7] at this;exact this
section
variable {K:ae}
theorem sQ {b1 b2:Bool}{l1 l2:Addr}{xs ys:List V}{g:TG}{tb:TS}{D:mB}{σ:St}{H:Hp}(hlen:ys.length<=xs.length)(Pv:Nat->St->Hp->Prop)(h0:Pv 0 σ H)(hl:∀i σ H,i<=ys.length->Pv i σ H->SqB b1 K H l1 xs/\SqB b2 K H l2 ys)
  (hs:∀i x y σ H p,xs[i]?=some x->ys[i]?=some y->H p=none->Pv i σ H->g (.ref p) σ (upd H p (.tup [x,y])) λσ2 H2=>tb { D with nx:=Pv (i+1),ct:=Pv (i+1),bk:=D.nx } σ2 H2) (hd:∀σ H,Pv ys.length σ H->D.nx σ H) :
  gL (Itz K b1 b2 l1 l2) g tb D σ H:=by
 refine⟨λi m σ H=>m=ys.length - i/\i<=ys.length/\Pv i σ H,⟨ys.length,by simp,av _,h0⟩,?g⟩
 case g=>
 rintro i m σ H ⟨rfl,hi,p⟩
 obtain⟨q1,q2⟩:=hl i σ H hi p
 by_cases hlt:i<ys.length
 ·refine .inr ⟨⟨xs,ys,xs[i],ys[i],q1,q2,by simp[show i<xs.length by omega],by simp[hlt]⟩,Pv (i+1),λσ' H' p'=>⟨ys.length - (i+1),by omega,rfl,hlt,p'⟩,λv H' ⟨a,x,y,e1,e2,e3,e4,e5⟩=>?g⟩
  case g=>
  subst e1;subst e3
  exact hs i x y σ H a (e4 xs q1) (e5 ys q2) e2 p
 ·obtain rfl:i=ys.length:=by omega
  exact .inl ⟨⟨xs,ys,q1,q2, .inr (ba _)⟩,hd σ H p⟩
theorem Pt.same {H H':Hp}{b:Addr}{e:List Int×Int×Int}(s:Same H H')(h:Pt K H b e):Pt K H' b e:=let⟨q,f,a1,a2,a3⟩:=h;⟨q,f,s.tup a1,s.tup a2,s.tup a3⟩
theorem Pt.x {H H':Hp}{b p:Addr}{ys:List V}{e:List Int×Int×Int}(hp:H p=some (.lst ys))(s:SameX p H H')(h:Pt K H b e):Pt K H' b e:=let⟨q,f,a1,a2,a3⟩:=h;⟨q,f,qE a1 hp s,qE a2 hp s,qE a3 hp s⟩
theorem Tri.same {H H':Hp}{b:Addr}{e:List Int}(s:Same H H')(h:Tri K H b e):Tri K H' b e:=let⟨q,x,y,t,z,a0,a1,a2⟩:=h;⟨q,x,y,t,z,a0,s.tup a1,s.tup a2⟩
theorem Tri.x {H H':Hp}{b p:Addr}{ys:List V}{e:List Int}(hp:H p=some (.lst ys))(s:SameX p H H')(h:Tri K H b e):Tri K H' b e:=let⟨q,x,y,t,z,a0,a1,a2⟩:=h;⟨q,x,y,t,z,a0,qE a1 hp s,qE a2 hp s⟩
def aKZ (K:ae):Sp:=λvs H Q _=>∃(S F hl:Addr) (ss:List V) (ls:List Addr) (T:List (List Int)) (n:Nat) (h:Nat->Nat),vs=[.ref S, .ref F, .ref hl, .int (dT T n h)]/\3<=n/\n<=6/\Bs T n/\OkT T n h/\H S=some (.lst ss)/\RowsS K H ss (fW n)/\Mt H F ls (mN n+1) (kN n+mN n+1) (RT T n h)/\H hl=some (.lst (hdL (mN n) h)) /\
 ∀C zs W H',Same H H'->H C=none->H' C=some (.lst zs)->W.Perm (aDZ T n h)->(W.map (·.1)).Pairwise (λa b=>lexL b a=false)->iM K H' zs W->Q (.ref C) H'
theorem aJL:∀vs H Q E,aKZ K vs H Q E->oK K (wQ K) { nx:=λ_ H'=>Q .non H',rt:=Q } (bR ["steps","rows","held","bottom","cuts","row","column","some","sign"] vs) H:=by
 intro vs H Q E h
 obtain⟨S,F,hl,ss,ls,T,n,h,rfl,n3,n6,bT,ok,hS,rS,M,hh,q⟩:=h
 obtain⟨nd,m15,m1,pij,k40,sg⟩:=nH n3 n6
 have sl:ss.length=kN n:=rS.1
 refine⟨show 0<=bx by decide,λC hC=>?_⟩
 have mC:=aI hC (.lst [])
 have hC1:(upd H C (.lst [])) C=some (.lst []):=aG
 generalize upd H C (.lst [])=G at *
 refine⟨_,rfl,_,rfl,F,hl,true,true,rfl,⟨_, .of (mC _ _ M.top)⟩,⟨_, .of (mC _ _ hh)⟩,?_⟩
 refine sQ (K:=K) (b1:=true) (b2:=true) (l1:=F) (l2:=hl) (xs:=ls.map V.ref) (ys:=hdL (mN n) h) (by rw[gA,af,M.len];omega) (λi σ' H'=>i<=mN n/\Same H H'/\(∃x5 x6 x7 x8,σ'=[some (.ref S),some (.ref F),some (.ref hl),some (.int (dT T n h)),some (.ref C),x5,x6,x7,x8])/\∃zs,H' C=some (.lst zs)/\RG (Pt K H') zs (((aq i).filter (qW T n h)).map (aJp T n h)))
  ⟨av _,mC,⟨_,_,_,_,rfl⟩,[],hC1,aCr⟩ (λi σ1 H1 _ ⟨_,s1,_⟩=>⟨.of (s1 _ _ M.top), .of (s1 _ _ hh)⟩) (λi x y σ1 H1 t hx hy ht ⟨_,s1,⟨x5,x6,x7,x8,es⟩,zs,hz,rz⟩=>?_) λσ1 H1 ⟨_,s1,⟨x5,x6,x7,x8,es⟩,zs,hz,rz⟩=>?_
 ·subst es
  have hi:i<mN n:=by have:=(ai.mp hy).1;rw[gA] at this;exact this
  rw[qZ hi] at hy
  obtain rfl:dJ (h i)=y:=az hy
  obtain⟨l,g1,g2,g3⟩:=M.at (show i<mN n+1 by omega)
  rw[g2] at hx
  obtain rfl:V.ref l=x:=az hx
  have mt:=aI ht (.tup [V.ref l,dJ (h i)])
  refine⟨t,_,rfl, .of aG,rfl,_,_,rfl,_,_,rfl,rfl,?_⟩
  have s2:=s1.trans mt
  have hz2:=mt _ _ hz
  have rz2:=cC rz λb e=>Pt.same mt
  generalize upd H1 t (.tup [V.ref l,dJ (h i)])=G1 at *
  have hl2:=s2 _ _ g3
  refine⟨_,rfl,_,rfl,S,_,rfl, .inl (.of (s2 _ _ hS)),_,_,rfl,rfl,_,rfl,?_⟩
  rw[sl]
  have ed:decide (((h i:Nat):Int)<((kN n:Nat):Int))=decide (h i<kN n):=by
   by_cases c:h i<kN n
   ·rw[decide_eq_true c];exact decide_eq_true (by omega)
   ·rw[decide_eq_false c];exact decide_eq_false (by omega)
  show if decide (((h i:Nat):Int)<((kN n:Nat):Int))=true then _ else _
  rw[ed]
  have skip:qW T n h i=false->(i+1<=mN n/\Same H G1/\(∃y5 y6 y7 y8,([some (.ref S),some (.ref F),some (.ref hl),some (.int (dT T n h)),some (.ref C),some (.ref l),some (dJ (h i)),x7,x8]:St)=[some (.ref S),some (.ref F),some (.ref hl),some (.int (dT T n h)),some (.ref C),y5,y6,y7,y8])/\∃zs,G1 C=some (.lst zs)/\RG (Pt K G1) zs (((aq (i+1)).filter (qW T n h)).map (aJp T n h))):=λc=>by
   refine⟨hi,s2,⟨_,_,_,_,rfl⟩,zs,hz2,?_⟩
   rw[iL,if_neg (by rw[c];decide),gu]
   exact rz2
  have lastv:∀{R:VK},R (.int (RT T n h i (NN n))) G1->aZ K (.ref l) (.int (-1)) G1 R:=λr=>aBb (.of hl2) (by rw[bQ];omega) (by rw[bQ];exact kQ (by omega)) r
  by_cases ck:h i<kN n
  ·refine cT (decide_eq_true ck) ⟨_,rfl,1,rfl,lastv ⟨.int _, .int 0,av _,rfl,rfl,_,rfl,?_⟩⟩
   have e0:(!eqD (.int (RT T n h i (NN n))) (.int 0)) = !decide (RT T n h i (NN n)=0):=by rw[eqD];rfl
   rw[e0]
   by_cases c0:RT T n h i (NN n)=0
   ·refine bB (by rw[decide_eq_true c0];rfl) (skip ?_)
    unfold qW
    rw[decide_eq_true c0]
    simp
   ·refine cT (by rw[decide_eq_false c0];rfl) ?_
    have ci:qW T n h i=true:=by unfold qW;rw[decide_eq_true ck,decide_eq_false c0];rfl
    obtain⟨b,q2,e1,e2,e3⟩:=(rS.same s2).2 _ _ (aGu ck)
    refine⟨_,rfl,_,rfl,ixL (.of (s2 _ _ hS)) e1 ⟨b,_,rfl,e2,rfl,_,_,rfl,_,_,rfl,rfl,?_⟩⟩
    have sgb:=aEF (j:=h i) n3 n6
    refine⟨_,rfl, .inl ⟨rfl,_, .of hz2⟩,_,rfl,_,rfl,_,rfl,1,rfl,lastv ⟨.inl (.inl ⟨by omega,by omega⟩),_,rfl,_,_,rfl,ok.d0,big (oY n3 n6 bT h),λf H3 s3 hf=>⟨show 2<=bx by decide,λu hu=>?_⟩⟩⟩
    have mu:=aI hu (.tup [V.ref q2, .ref f])
    have s4:=s3.trans mu
    have hz4:=s4 _ _ hz2
    refine⟨C,zs,_,rfl,rfl,hz4,bo (show zs.length<=100 by rw[rz.1,af];have:=oU (i:=i) (p:=qW T n h);omega) (by decide),hi,cM hC (s2.trans s4),⟨_,_,_,_,rfl⟩,_,aG,?_⟩
    rw[iL,if_pos ci,bz]
    refine cC (yW (cC rz2 λb e=>Pt.same s4) (b:=u) (e:=aJp T n h i) ⟨q2,f, .of aG,?_,mu.tup (.of hf)⟩) λb e=>Pt.x hz4 (SameX.put _)
    show SqT K _ q2 (((stA n (h i)).1.map Int.ofNat).map V.int)
    rw[<- dM]
    exact s4.tup e3
  ·refine bB (decide_eq_false ck) (bB rfl (skip ?_))
   unfold qW
   rw[decide_eq_false ck]
   rfl
 ·subst es
  rw[gA] at rz
  refine⟨_,rfl,C,zs,aDZ T n h,rfl, .inl (.of hz),rz,aFz n3 n6 ok,?_,λys W pW sW py rW l hl'=>?_⟩
  ·unfold aDZ
   rw[af]
   have:=oU (i:=mN n) (p:=qW T n h)
   omega
  ·have ml:=aI hl' (.lst ys)
   exact q l ys W _ (s1.trans ml) (s1.free hl') aG pW sW (cC rW λb e=>Pt.same ml)
def aJg (K:ae) (C1 C2 C3:Addr):Sp:=λvs H Q E=>∃(v:V) (T:List (List Int)) (n:Nat),vs=[v]/\Sh K H (uZ T) v/\Quad T n/\1<=n/\n<=8 /\
 (((lP T n).all id=false/\∀H',Same H H'->E (.ref C1) none H')\/(Sy T n/\((n<3/\∀H',Same H H'->E (.ref C2) none H')\/(6<n/\∀H',Same H H'->E (.ref C3) none H')\/(3<=n/\n<=6/\∀H',Same H H'->Q .non H'))))
theorem aKb {C1 C2 C3:Addr}:∀vs H Q E,aJg K C1 C2 C3 vs H Q E->jB K C1 C2 C3 E (aLA K) { nx:=λ_ H'=>Q .non H',rt:=Q } (bR ["table"] vs) H:=by
 intro vs H Q E h
 obtain⟨v,T,n,rfl,hT,qT,n1,n8,q⟩:=h
 refine⟨_,rfl,v,T,n,rfl,hT,qT,n1,n8,λH1 s1=>?_⟩
 obtain⟨a,rs,rfl,ha,hl,_⟩:=id hT.tab
 have hl:rs.length=n:=hl.trans qT.len
 rcases q with⟨ev,e⟩ | ⟨sy,q⟩
 ·exact⟨_,rfl,cT (by show(!(lP T n).all id)=true;rw[ev];rfl) (e H1 s1)⟩
 ·refine⟨_,rfl,bB (by show(!(lP T n).all id)=false;rw[aEu sy];rfl) ?_⟩
  refine⟨_,rfl,a,rs,rfl, .inr (s1.tup ha),_,_,rfl,rfl,_,rfl,?_⟩
  rw[hl]
  rcases q with⟨lt,e⟩ | q
  ·exact cT (decide_eq_true (by omega)) (e H1 s1)
  ·have n3:3<=n:=by rcases q with⟨z,_⟩ | ⟨z,_⟩ <;> omega
   refine bB (decide_eq_false (by omega)) ⟨_,rfl,a,rs,rfl, .inr (s1.tup ha),_,_,rfl,rfl,_,rfl,?_⟩
   rw[hl]
   rcases q with⟨gt,e⟩ | ⟨_,n6,q⟩
   ·exact cT (decide_eq_true (by omega)) (e H1 s1)
   ·exact bB (decide_eq_false (by omega)) (q H1 s1)
end
section
variable {K:ae}
def aHA (K:ae) (C1 C2 C3:Addr):Sp:=λvs H Q E=>∃(v:V) (T:List (List Int)) (n:Nat),vs=[v]/\Sh K H (uZ T) v/\Quad T n/\1<=n/\n<=8 /\
 (((lP T n).all id=false/\∀H',Same H H'->E (.ref C1) none H')\/(Sy T n/\((n<3/\∀H',Same H H'->E (.ref C2) none H')\/(6<n/\∀H',Same H H'->E (.ref C3) none H')\/(3<=n/\n<=6/\Bs T n /\
  ∀h p wp fl cl ys zs W H',Same H H'->OkT T n h->(∀j,j<NN n->0<=RT T n h (mN n) j)->H' p=some (.tup [.ref wp, .ref fl, .ref cl])->H' wp=some (.tup [.int (lo (RT T n h (mN n) (NN n)) (dT T n h)).1, .int (lo (RT T n h (mN n) (NN n)) (dT T n h)).2])->H fl=none->H' fl=some (.lst ys)->zD K H' ys (aKg T n h) ->
   H cl=none->cl≠fl->H' cl=some (.lst zs)->W.Perm (aDZ T n h)->(W.map (·.1)).Pairwise (λa b=>lexL b a=false)->iM K H' zs W->Q (.ref p) H'))))
theorem aHT {C1 C2 C3:Addr}:∀vs H Q E,aHA K C1 C2 C3 vs H Q E->aAp K E (aJU K) (aLj K) (aKP K) (wQ K) (aKX K) (aKZ K) (aJg K C1 C2 C3) { nx:=λ_ H'=>Q .non H',rt:=Q } (bR ["table","pairs","steps","rows","held","bottom","tops","found"] vs) H:=by
 intro vs H Q E h
 obtain⟨v,T,n,rfl,hT,qT,n1,n8,q⟩:=h
 refine⟨_,rfl,v,T,n,rfl,hT,qT,n1,n8,?_⟩
 rcases q with q | ⟨sy,q | q | ⟨n3,n6,bT,q⟩⟩
 ·exact .inl q
 ·exact .inr ⟨sy, .inl q⟩
 ·exact .inr ⟨sy, .inr (.inl q)⟩
 refine .inr ⟨sy, .inr (.inr ⟨n3,n6,λH1 s1=>?_⟩)⟩
 obtain⟨nd,m15,m1,pij,k40,sg⟩:=nH n3 n6
 obtain⟨a,rs,rfl,ha,hl,_⟩:=id hT.tab
 have hl:rs.length=n:=hl.trans qT.len
 refine⟨_,rfl,a,rs,rfl, .inr (s1.tup ha),n,by rw[hl];rfl,n8,λP ps H2 s2 _ hP rP=>?_⟩
 have s12:=s1.trans s2
 refine⟨_,rfl,a,rs,rfl, .inr (s12.tup ha),n,by rw[hl];rfl,n3,n6,λS ss H3 s3 _ hS rS=>?_⟩
 have s13:=s12.trans s3
 refine⟨_,rfl,_,rfl,_,rfl, .ref a,P,S,ps,ss,T,n,rfl,hT.same s13,qT,n3,n6,s3 _ _ hP,rP.same s3,hS,rS,λF ls H4 s4 hF0 M4=>?_⟩
 have s14:=s13.trans s4
 have pl:ps.length=mN n:=by rw[rP.1,jS];rfl
 have sl:ss.length=kN n:=rS.1
 have hP4:=(s3.trans s4) _ _ hP
 have hS4:=s4 _ _ hS
 refine⟨_,rfl,P,_,rfl, .inl (.of hP4),(ps.length:Int),rfl,by omega,by omega,λA hA=>?_⟩
 rw[bu,pl]
 have hv:∀H',SameX A (upd H4 A (.lst [])) H'->Same H4 H':=λH' sx=>cI hA sx
 refine bP [0] (hdL (mN n) (Sh.h0 (kN n))) hA (by rw[gA];omega) (Emits.cast (iZ (n:=mN n) (lo:=0) (j:=0) (L:=λi=>[dJ (kN n+i)]) (by decide) (by show 0<2;decide) λi σ5 H5 hi l5 ag5 t0 sx5 _=>?_) (by rw[nI];rfl)) λσ5 H5 s5 hA5=>?_
 ·have t1:σ5[1]?=some (some (.ref S)):=(ag5 1 (by decide)).trans rfl
  rw[kh] at t0
  refine cL λR hR=>⟨_,t1,S,_,rfl, .inl (.of (hv _ sx5 _ _ hS4)),_,t0,?_⟩
  show R (.int ((ss.length:Int)+(i:Int))) H5
  rw[sl,show((kN n:Nat):Int)+(i:Int)=((kN n+i:Nat):Int) by omega]
  exact hR _ (Same.refl _)
 have s15:=s14.trans s5
 refine⟨_,rfl,_,rfl,F,A,ls,T,n,rfl,n3,n6,bT,M4.same s5,hA5,λh ls6 H6 ok all M6 hh6 sa6=>?_⟩
 have nF:∀b o,H3 b=some o->b≠F:=λb o e z=>by rw[z,hF0] at e;cases e
 have nA:∀b o,H4 b=some o->b≠A:=λb o e z=>by rw[z,hA] at e;cases e
 have s36:Same H3 H6:=λb o e=>sa6 b o (nF b o e) (nA b o (s4 _ _ e)) (s5 _ _ (s4 _ _ e))
 have s16:=s13.trans s36
 obtain⟨ll,g1,g2,g3⟩:=M6.at (show mN n<mN n+1 by omega)
 have lastR:∀{R:VK},R (.ref ll) H6->aZ K (.ref F) (.int (-1)) H6 R:=λr=>aBb (.of M6.top) (by rw[af,M6.len];omega) (by rw[af,M6.len];exact g2) r
 refine⟨_,rfl,1,rfl,lastR ⟨_,rfl,S,_,rfl, .inl (.of (s36 _ _ hS)),_,rfl,1,rfl,_,rfl, .inl ⟨ll,_,rfl, .of g3,λtp htp=>?_⟩⟩⟩
 rw[sl,aDa (by rw[bQ];omega)]
 have et:((mkR (kN n+mN n+1) (RT T n h (mN n))).drop (kN n)).take ((mkR (kN n+mN n+1) (RT T n h (mN n))).length - 1 - kN n)=mkR (mN n) (λp=>RT T n h (mN n) (kN n+p)):=by
  rw[bQ,show kN n+mN n+1 - 1 - kN n=mN n by omega]
  apply v8
  intro i
  rw[List.getElem?_take]
  by_cases c:i<mN n
  ·rw[if_pos c,k9,kQ (by omega),kQ c]
  ·rw[if_neg c]
   exact(rk (by rw[bQ];omega)).symm
 rw[et]
 have mtp:=aI htp (.lst (mkR (mN n) (λp=>RT T n h (mN n) (kN n+p))))
 have htp7:(upd H6 tp (.lst (mkR (mN n) (λp=>RT T n h (mN n) (kN n+p))))) tp=some (.lst (mkR (mN n) (λp=>RT T n h (mN n) (kN n+p)))):=aG
 have s17:=s16.trans mtp
 have s37:=s36.trans mtp
 have M7:=M6.same mtp
 have hh7:=mtp _ _ hh6
 generalize upd H6 tp (.lst (mkR (mN n) (λp=>RT T n h (mN n) (kN n+p))))=H7 at *
 have hP7:=s37 _ _ (s3 _ _ hP)
 have rP7:=(rP.same s3).same s37
 refine⟨_,rfl,_,rfl,P,tp,true,true,rfl,⟨_, .of hP7⟩,⟨_, .of htp7⟩,λB hB=>?_⟩
 refine sQ (K:=K) (b1:=true) (b2:=true) (l1:=P) (l2:=tp) (xs:=ps) (ys:=mkR (mN n) (λp=>RT T n h (mN n) (kN n+p))) (by rw[bQ,pl];omega) (λi σ' H'=>i<=mN n/\Same H7 H'/\(∃x0 x1 x2,σ'=[x0,x1,x2,some (.int (dT T n h))])/\∃ys,H' B=some (.lst ys)/\RG (Tri K H') ys (((aq i).filter (xQ T n h)).map (aJf T n h)))
  ⟨av _,aI hB _,⟨_,_,_,rfl⟩,[],aG,aCr⟩ (λi σ8 H8 _ ⟨_,s8,_⟩=>⟨.of (s8 _ _ hP7), .of (s8 _ _ htp7)⟩) (λi x y σ8 H8 t hx hy ht ⟨_,s8,⟨x0,x1,x2,es⟩,ys,hz,rz⟩=>?_) λσ8 H8 ⟨_,s8,_,ys,hz,rz⟩=>?_
 ·subst es
  obtain⟨hi,rfl⟩:=tL hy
  obtain⟨e,b,he,rfl,hb⟩:=rC (rP7.same s8) hx
  have ep:prA n i=e:=dU he
  have mt:=aI ht (.tup [V.ref b, .int (RT T n h (mN n) (kN n+i))])
  refine⟨t,_,rfl, .of aG,rfl,_,_,rfl,b,_,rfl,mt.tup hb,rfl,_,_,rfl,_,_,rfl,rfl,_,_,rfl,rfl,?_⟩
  have s9:=s8.trans mt
  have hz9:=mt _ _ hz
  have rz9:=cC rz λb e=>Tri.same mt
  generalize upd H8 t (.tup [V.ref b, .int (RT T n h (mN n) (kN n+i))])=H9 at *
  refine⟨_,rfl,_,_,rfl,rfl,_,rfl,nQ (λc=>?_) λc=>?_⟩
  ·have ci:xQ T n h i=true:=c
   refine⟨_,rfl,_,rfl,_,rfl,_,rfl,_,_,rfl,ok.d0,big (oY n3 n6 bT h),λf H10 s10 hf=>⟨show 3<=bx by decide,λu hu=>?_⟩⟩
   have mu:=aI hu (.tup [dJ e.1,dJ e.2, .ref f])
   have s11:=s10.trans mu
   have hz11:=s11 _ _ hz9
   refine⟨ys,hz11,bo (show ys.length<=100 by rw[rz.1,af];have:=oU (i:=i) (p:=xQ T n h);omega) (by decide),hi,cM hB (s9.trans s11),⟨_,_,_,rfl⟩,_,aG,?_⟩
   rw[iL,if_pos ci,bz]
   refine cC (yW (cC rz9 λb e=>Tri.same s11) (b:=u) (e:=aJf T n h i) ⟨f,e.1,e.2,(lo (RT T n h (mN n) (kN n+i)) (dT T n h)).1,(lo (RT T n h (mN n) (kN n+i)) (dT T n h)).2,by unfold aJf;rw[ep], .of aG,mu.tup (.of hf)⟩) λb e=>Tri.x hz11 (SameX.put _)
  ·refine⟨hi,s9,⟨_,_,_,rfl⟩,ys,hz9,?_⟩
   have ci:¬ xQ T n h i=true:=c
   rw[iL,if_neg ci,gu]
   exact rz9
 ·rw[bQ] at rz
  have g3':=s8 _ _ (mtp _ _ g3)
  have Fl8:=s8 _ _ M7.top
  refine⟨_,rfl,1,rfl,aBb (.of Fl8) (by rw[af,M7.len];omega) (by rw[af,M7.len];exact g2) ⟨1,rfl,aBb (.of g3') (by rw[bQ];omega) (by rw[bQ];exact kQ (by omega)) ⟨_,rfl,_,_,rfl,ok.d0,big (oY n3 n6 bT h),λwp H9 s9 hwp=>?_⟩⟩⟩
  have s89:=s8.trans s9
  refine⟨_,rfl,_,rfl,_,rfl,_,rfl,_,rfl,S,F,A,ss,ls6,T,n,h,rfl,n3,n6,bT,ok,(s37.trans s89) _ _ hS,rS.same (s37.trans s89),M7.same s89,s89 _ _ hh7,λcl zs W H10 s10 hcl0 hcl pW sW rW=>⟨show 3<=bx by decide,λp hp=>?_⟩⟩
  have mp:=aI hp (.tup [V.ref wp, .ref B, .ref cl])
  have hB10:=s10 _ _ (s9 _ _ hz)
  refine q h p wp B cl ys zs W _ (((s17.trans s89).trans s10).trans mp) ok all aG ?_ (s17.free hB) (mp _ _ hB10) (cC rz λb e=>Tri.same ((s9.trans s10).trans mp)) ((s17.trans s89).free hcl0) (λz=>?_) (mp _ _ hcl) pW sW (cC rW λb e=>Pt.same mp)
  ·exact mp _ _ (s10 _ _ hwp)
  ·rw[z,s9 _ _ hz] at hcl0
   cases hcl0
end
end K36
namespace K36.L
open PySem L2
def whD:Dt->Bool
 | .int _=>true
 |_=>false
def aLd:Dt->Bool
 | .tup ds=>ds.all whD
 |_=>false
inductive aHO (K : ae) (vs : List V) (H : Hp) (Q : VK) : Prop
 |mk (v : V) (d : Dt) (h0 : vs = [v]) (h1 : Sh K H d v) (h2 : ∀H', Same H H' -> Q (.bl (whD d)) H') : aHO K vs H Q
def spW (K:ae):Sp:=λvs H Q _=>aHO K vs H Q
inductive aFB (K : ae) (vs : List V) (H : Hp) (Q : VK) : Prop
 |mk (v : V) (d : Dt) (h0 : vs = [v]) (h1 : Sh K H d v) (h2 : (∀ds, d = .tup ds -> ds.length <= 1000)) (h3 : ∀H', Same H H' -> Q (.bl (aLd d)) H') : aFB K vs H Q
def spWs (K:ae):Sp:=λvs H Q _=>aFB K vs H Q
theorem aAR {α β:Type}(f:α->β)(e:α):∀ds:List α,(aq ds.length).flatMap (λi=>[f (ds.getD i e)])=ds.map f
 |[]=>rfl
 |d :: ds=>by
  rw[cy,mw,ly,List.flatMap_map,c4,<- aAR f e ds]
  rfl
section
variable {K:ae}
theorem rd_whole:∀vs H Q E,spW K vs H Q E->qV K { nx:=λ_ H'=>Q .non H',rt:=Q } (bR ["thing"] vs) H:=by
 intro vs H Q E h
 obtain⟨v,d,rfl,hS,q⟩:=h
 have q0:=q H (Same.refl _)
 refine⟨_,rfl,v,d,"int",rfl,by decide,hS,_,rfl,?_⟩
 by_cases hi:aEP d "int" = true
 ·rw[if_pos hi]
  refine⟨_,rfl,v,d,"bool",rfl,by decide,hS,_,rfl,?_⟩
  cases d <;> first | exact q0 | (exact absurd hi (by simp[aEP]))
 ·rw[if_neg hi]
  cases d <;> first | exact q0 | (exact absurd (by rfl) hi)
theorem rd_wholes:∀vs H Q E,spWs K vs H Q E->mO K (spW K) { nx:=λ_ H'=>Q .non H',rt:=Q } (bR ["thing"] vs) H:=by
 intro vs H Q E h
 obtain⟨v,d,rfl,hS,hz,q⟩:=h
 refine⟨_,rfl,v,d,"tuple",rfl,by decide,hS,_,rfl,?_⟩
 by_cases hi:aEP d "tuple" = true
 ·rw[if_pos hi]
  cases d with
  |tup ds=>
   obtain⟨a,xs,rfl,ha,hL⟩:=id hS
   have hl:ds.length=xs.length:=hL.length
   refine⟨_,rfl,a,rfl, .inr ⟨⟨xs,ha⟩,λacc hacc=>?_⟩⟩
   refine bP [0] ((ds.map whD).map V.bl) hacc (by rw[af,af];exact c9 (hz ds rfl) (by decide)) ?_ λσ' H' sm hl'=>⟨acc,ds.map whD,rfl, .inl (.of hl'),?_⟩
   ·refine Emits.cast (L:=(aq xs.length).flatMap λi=>[V.bl (whD (ds.getD i .non))]) ?_ (by rw[<- hl,aAR (λd=>V.bl (whD d)),dr];rfl)
    refine aEK (by decide) (by show 0<1;decide) (λH' sx=>(cI hacc sx).tup ha) λi x σ1 H1 hx l1 ag1 s1 sx1 _=>?_
    refine cL λQ hQ=>?_
    have hi':i<ds.length:=by rw[hl];exact(ai.mp hx).1
    obtain⟨y,hy,sy⟩:=hL.get (j:=i) (d:=ds.getD i .non) (by rw[ak];simp[hi'])
    obtain rfl:y=x:=by rw[hx] at hy;cases hy;rfl
    exact⟨_,s1,y,_,rfl,sy.same (cI hacc sx1),hQ⟩
   ·have:=q H' sm
    rw[show aLd (.tup ds)=ds.all whD from rfl] at this
    rw[u3]
    exact this
  |_=>exact absurd hi (by simp[aEP])
 ·rw[if_neg hi]
  have q0:=q H (Same.refl _)
  cases d <;> first | exact q0 | (exact absurd (by rfl) hi)
end
end K36.L
namespace K36
open PySem L2
def OkD (D:Int) (P:Pr):Prop:=∀e∈P,0<e.2/\e.2 ∣ D/\e.1.natAbs<2 ^ 2000
def dI (D:Int) (P:Pr):Int:=(P.map λe=>e.1*(D / e.2)).sum
theorem aGb {c b D:Int}(hb:0<b)(h1:c ∣ D)(h2:b ∣ D):c*(b / gd c b) ∣ D:=by
 obtain⟨r1,r2,r3,r4⟩:=kH (i:=c) hb
 have g0:=iN (i:=c) hb
 obtain⟨u,rfl⟩:=h1
 have h3:gd c b*(b / gd c b) ∣ gd c b*(c / gd c b*u):=by
  rw[<- r2,<- cv,<- r1]
  exact h2
 have h4:b / gd c b ∣ c / gd c b*u:=Int.dvd_of_mul_dvd_mul_left (by omega) h3
 obtain⟨w,hw⟩:=yB h4 r4
 refine⟨w,?_⟩
 rw[cv,<- hw]
theorem dW {c D:Int}(hc:0<c)(hD:0<D)(h:c ∣ D){k:Nat}(hb:D.natAbs<2 ^ k):c.natAbs<2 ^ k:=by
 have:=w4 hD h
 omega
theorem aDD {x:Int}(h:x.natAbs<2 ^ 2000):x.natAbs<2 ^ 8000:=aw h (br (by decide) (by decide))
theorem pI {D e:Int}(he:0<e)(hD:0<D){k:Nat}(hb:D.natAbs<2 ^ k):(D / e).natAbs<2 ^ k:=by
 have:D / e<=D:=Int.ediv_le_self _ (by omega)
 have:0<=D / e:=Int.ediv_nonneg (by omega) (by omega)
 omega
section
variable {K:ae}
def aLb (K:ae):Sp:=λvs H Q _=>∃(a:Addr) (xs:List V) (P:Pr) (D:Int),vs=[.ref a]/\SqL K H a xs/\Rows K H xs (prI P)/\OkD D P/\0<D/\D.natAbs<2 ^ 2000/\∀c:Int,0<c->c ∣ D->(∀e∈P,e.2 ∣ c)->Q (.int c) H
theorem aJA:∀vs H Q E,aLb K vs H Q E->iE K aJr { nx:=λ_ H'=>Q .non H',rt:=Q } (bR ["some","common","top","bottom"] vs) H:=by
 intro vs H Q E h
 obtain⟨a,xs,P,D,rfl,ha,hr,okp,D0,Db,q⟩:=h
 have hl:xs.length=P.length:=by rw[hr.1];unfold prI;rw[af]
 refine⟨_,rfl,a,rfl, .inl ⟨⟨_,ha⟩,bJ (K:=K) (a:=a) (xs:=xs) (λi σ' H'=>H'=H/\i<=xs.length/\∃(c:Int) (x2 x3:Option V),σ'=[some (.ref a),some (.int c),x2,x3]/\0<c/\c ∣ D/\∀e∈P.take i,e.2 ∣ c) ⟨rfl,av _,1,none,none,rfl,by decide,Int.one_dvd _,by simp⟩ (λi σ1 H1 _ ⟨e,_⟩=>by rw[e];exact ha) (λi x σ1 H1 hx ⟨e,_,c,x2,x3,es,c0,cd,ce⟩=>?_) λσ1 H1 ⟨e,_,c,x2,x3,es,c0,cd,ce⟩=>?_⟩⟩
 ·subst e es
  have hi:i<xs.length:=(ai.mp hx).1
  obtain⟨e,b,he,rfl,hb⟩:=aDc hr hx
  obtain⟨b0,bd,_⟩:=okp e (au he)
  refine⟨b,_,rfl,hb,rfl, .int e.1,[.int e.2],rfl, .int e.2,[],rfl,rfl,?_⟩
  have g0:=iN (i:=c) b0
  obtain⟨r1,r2,r3,_⟩:=kH (i:=c) b0
  have e2s:=aDD (dW b0 D0 bd Db)
  refine⟨_,rfl,_,rfl,_,rfl,_,rfl,c,e.2,rfl,_,_,rfl,rfl,wR b0 e2s, .inr ⟨aDD (dW c0 D0 cd Db),pI g0 b0 e2s⟩,rfl,hi,c*(e.2 / gd c e.2),_,_,rfl,o9 c0 r3,aGb b0 cd bd,λx hx'=>?_⟩
  rw[fz,he] at hx'
  rcases du.mp hx' with h | h
  ·exact Int.dvd_trans (ce x h) (Int.dvd_mul_right ..)
  ·obtain rfl:x=e:=by simpa using h
   refine⟨c / gd c x.2,?_⟩
   have:c*(x.2 / gd c x.2)=(gd c x.2*(c / gd c x.2))*(x.2 / gd c x.2):=by rw[<- r1]
   rw[this,cv,fk,<- cv,de (c / gd c x.2),cv,de (c / gd c x.2),<- cv,<- r2]
 ·subst e es
  rw[hl,dn] at ce
  exact⟨_,rfl,q c c0 cd ce⟩
def aIl (D:Int) (P:Pr):List Int:=P.map λe=>e.1*(D / e.2)
def aLl (K:ae):Sp:=λvs H Q _=>∃(a:Addr) (xs:List V) (P:Pr) (D:Int),vs=[.ref a, .int D]/\H a=some (.lst xs)/\Rows K H xs (prI P)/\OkD D P/\P.length<=100/\0<D/\D.natAbs<2 ^ 2000/\∀l H',Same H H'->H' l=some (.lst ((aIl D P).map V.int))->Q (.ref l) H'
theorem aKy:∀vs H Q E,aLl K vs H Q E->oG K { nx:=λ_ H'=>Q .non H',rt:=Q } (bR ["some","bottom"] vs) H:=by
 intro vs H Q E h
 obtain⟨a,xs,P,D,rfl,ha,hr,okp,h8,D0,Db,q⟩:=h
 have hl:xs.length=P.length:=by rw[hr.1];unfold prI;rw[af]
 refine⟨_,rfl,a,rfl, .inl ⟨⟨_, .of ha⟩,λA hA=>?_⟩⟩
 refine bJ (K:=K) (a:=a) (xs:=xs) (λi σ' H'=>i<=xs.length/\Same H H'/\(∃x0 x1,σ'=[x0,x1,some (.int D)])/\H' A=some (.lst ((aIl D (P.take i)).map V.int))) ⟨av _,aI hA _,⟨_,_,rfl⟩,aG⟩ (λi σ1 H1 _ ⟨_,s1,_⟩ => .of (s1 _ _ ha)) (λi x σ1 H1 hx ⟨_,s1,⟨x0,x1,es⟩,hA1⟩=>?_) λσ1 H1 ⟨_,s1,_,hA1⟩=>?_
 ·subst es
  have hi:i<xs.length:=(ai.mp hx).1
  obtain⟨e,b,he,rfl,hb⟩:=aDc (hr.same s1) hx
  obtain⟨b0,b1,t1⟩:=okp e (au he)
  refine⟨b,_,rfl,hb,rfl, .int e.1,[.int e.2],rfl, .int e.2,[],rfl,rfl,?_⟩
  refine⟨_,rfl,_,rfl,_,rfl,_,_,rfl,rfl,⟨b0,aDD (dW b0 D0 b1 Db)⟩, .inr ⟨aDD t1,aDD (pI b0 D0 Db)⟩,_,hA1,?_,hi,cM hA s1,⟨_,_,rfl⟩,?_⟩
  ·rw[af]
   unfold aIl
   rw[af,b9]
   exact bo (show _<=100 by omega) (by decide)
  ·rw[aG,fz,he]
   unfold aIl
   rw[bz,bz]
   rfl
 ·rw[hl,dn] at hA1
  exact q A H1 s1 hA1
theorem vR {c D:Int}(hc:0<c)(hD:0<D)(hcD:c ∣ D):∀{P:Pr},(∀e∈P,0<e.2/\e.2 ∣ c)->dI c P*D=dI D P*c
 |[],_=>by simp[dI]
 |e :: P,h=>by
  have ih:=vR hc hD hcD (P:=P) λx hx=>h x (bf _ hx)
  obtain⟨e0,u,rfl⟩:=h e (bp ..)
  obtain⟨w,rfl⟩:=hcD
  have x1:e.2*u / e.2=u:=jf _ (by omega)
  have x2:e.2*u*w / e.2=u*w:=by rw[cv];exact jf _ (by omega)
  unfold dI at ih ⊢
  rw[c4,c4,ke,ke,ui,ui,ih,x1,x2]
  congr 1
  simp only[cv,fk,de]
theorem aCR {a b c d:Int}(hb:0<b)(hd:0<d)(h:a*d=c*b):lo a b=lo c d:=by
 obtain⟨e1,e2⟩:=aIN hb hd h
 unfold lo
 rw[e1,e2]
def sP (K:ae):Sp:=λvs H Q _=>∃(a:Addr) (xs:List V) (P:Pr) (D:Int),vs=[.ref a]/\H a=some (.lst xs)/\Rows K H xs (prI P)/\OkD D P/\P.length<=100/\0<D/\D.natAbs<2 ^ 2000/\∀p H',Same H H'->H' p=some (.tup [.int (lo (dI D P) D).1, .int (lo (dI D P) D).2])->Q (.ref p) H'
theorem aIQ:∀vs H Q E,sP K vs H Q E->aBH K (aLb K) (wQ K) (aLl K) { nx:=λ_ H'=>Q .non H',rt:=Q } (bR ["some","bottom"] vs) H:=by
 intro vs H Q E h
 obtain⟨a,xs,P,D,rfl,ha,hr,okp,h8,D0,Db,q⟩:=h
 refine⟨_,rfl,a,xs,P,D,rfl, .of ha,hr,okp,D0,Db,λc c0 cd ce=>?_⟩
 have cb:=dW c0 D0 cd Db
 refine⟨_,rfl,_,rfl,a,xs,P,c,rfl,ha,hr,λe he=>⟨(okp e he).1,ce e he,(okp e he).2.2⟩,h8,c0,cb,λl H1 s1 hl=>⟨l,aIl c P,rfl, .inl (.of hl),_,rfl,_,_,rfl,c0,aDD cb,λp H2 s2 hp=>q p H2 (s1.trans s2) ?_⟩⟩
 rw[hp]
 have e:=aCR c0 D0 (vR c0 D0 cd (P:=P) λe he=>⟨(okp e he).1,ce e he⟩)
 rw[<- e]
 rfl
def Fr (K:ae) (H:Hp) (a:Addr) (t b:Int):Prop:=SqT K H a [.int t, .int b]
def aHc (K:ae):Sp:=λvs H Q _=>∃(x y:Addr) (t b t' b':Int),vs=[.ref x, .ref y]/\Fr K H x t b/\Fr K H y t' b'/\t.natAbs<2 ^ 2000/\b.natAbs<2 ^ 2000/\t'.natAbs<2 ^ 2000/\b'.natAbs<2 ^ 2000/\0<b/\0<b'/\∀p H',Same H H'->H' p=some (.tup [.int (lo (t*t') (b*b')).1, .int (lo (t*t') (b*b')).2])->Q (.ref p) H'
theorem aIV:∀vs H Q E,aHc K vs H Q E->aCe K (wQ K) { nx:=λ_ H'=>Q .non H',rt:=Q } (bR ["one","other"] vs) H:=by
 intro vs H Q E h
 obtain⟨x,y,t,b,t',b',rfl,hx,hy,h1,h2,h3,h4,h5,h6,q⟩:=h
 refine⟨_,rfl,ixT (j:=0) hx rfl ⟨_,rfl,ixT (j:=0) hy rfl ⟨.inr ⟨aDD h1,aDD h3⟩,_,rfl,ixT (j:=1) hx rfl ⟨_,rfl,ixT (j:=1) hy rfl ⟨.inr ⟨aDD h2,aDD h4⟩,_,_,rfl,o9 h5 h6,?_,λp H' s hp=>q p H' s hp⟩⟩⟩⟩⟩
 exact aw (sI h2 h4) (br (by decide) (by decide))
def aKa (K:ae):Sp:=λvs H Q _=>∃(x y:Addr) (t b t' b':Int),vs=[.ref x, .ref y]/\Fr K H x t b/\Fr K H y t' b'/\t.natAbs<2 ^ 8000/\b.natAbs<2 ^ 8000/\t'.natAbs<2 ^ 8000/\b'.natAbs<2 ^ 8000/\Q (.bl (decide (t*b'<t'*b))) H
theorem aJC:∀vs H Q E,aKa K vs H Q E->wU K { nx:=λ_ H'=>Q .non H',rt:=Q } (bR ["one","other"] vs) H:=by
 intro vs H Q E h
 obtain⟨x,y,t,b,t',b',rfl,hx,hy,h1,h2,h3,h4,q⟩:=h
 exact⟨_,rfl,ixT (j:=0) hx rfl ⟨_,rfl,ixT (j:=1) hy rfl ⟨.inr ⟨h1,h4⟩,_,rfl,ixT (j:=0) hy rfl ⟨_,rfl,ixT (j:=1) hx rfl ⟨.inr ⟨h3,h2⟩,_,_,rfl,rfl,q⟩⟩⟩⟩⟩
theorem aJn {α β:Type}(p:α->Bool)(g:α->β)(e:α):([e].filter p).map g=if p e=true then[g e] else[]:=by
 by_cases c:p e=true
 ·rw[if_pos c,kc c];rfl
 ·rw[if_neg c,kd c];rfl
abbrev Shs:=List ((Nat×Nat)×(Int×Int))
def jL (L:Shs):List (List Int):=L.map λe=>[(e.1.1:Int),(e.1.2:Int),e.2.1,e.2.2]
def jV (s:List Nat) (L:Shs):Pr:=(L.filter λe=>prt s e.1.1 e.1.2).map (·.2)
theorem gS {H:Hp}{ys:List V}{L:Shs}(h:zD K H ys (jL L)){i:Nat}{x:V}(hx:ys[i]?=some x):∃e b q,L[i]?=some e/\x = .ref b/\SqT K H b [dJ e.1.1,dJ e.1.2, .ref q]/\SqT K H q [.int e.2.1, .int e.2.2]:=by
 obtain⟨row,b,hr,rfl,q,x,y,t,z,er,h1,h2⟩:=aHk (show RG (Tri K H) ys (jL L) from h) hx
 unfold jL at hr
 rw[bh] at hr
 cases he:L[i]? with
 |none=>rw[he] at hr;cases hr
 |some e=>
  rw[he] at hr
  have z1:=(az hr).trans er
  simp only[ym,and_true] at z1
  obtain⟨a1,a2,a3,a4⟩:=z1
  subst a1 a2 a3 a4
  exact⟨e,b,q,rfl,rfl,h1,h2⟩
theorem lB {D:Int}{P P':Pr}(h:OkD D P)(s:∀e∈P',e∈P):OkD D P':=λe he=>h e (s e he)
theorem gR {P P':Pr}:prI (P++P')=prI P++prI P':=by unfold prI;rw[bz]
def aJt (K:ae):Sp:=λvs H Q _=>∃(l c:Addr) (ys:List V) (L:Shs) (s:List Nat) (D:Int),vs=[.ref l, .ref c]/\H l=some (.lst ys)/\zD K H ys (jL L)/\L.length<=60/\SqT K H c (s.map dJ)/\OkD D (L.map (·.2))/\0<D/\D.natAbs<2 ^ 2000 /\
 ∀p H',Same H H'->H' p=some (.tup [.int (lo (dI D (jV s L)) D).1, .int (lo (dI D (jV s L)) D).2])->Q (.ref p) H'
theorem aJV:∀vs H Q E,aJt K vs H Q E->rO K (aHg K) (sP K) { nx:=λ_ H'=>Q .non H',rt:=Q } (bR ["some","cut"] vs) H:=by
 intro vs H Q E h
 obtain⟨l,c,ys,L,s,D,rfl,hl,rL,z,hc,okd,D0,Db,q⟩:=h
 have yl:ys.length=L.length:=by rw[rL.1];unfold jL;rw[af]
 refine⟨_,rfl,l,rfl, .inl ⟨⟨_, .of hl⟩,λA hA=>?_⟩⟩
 refine bJ (K:=K) (a:=l) (xs:=ys) (λi σ' H'=>i<=ys.length/\Same H H'/\(∃x0 x1 x2,σ'=[x0,x1,x2,some (.ref c)])/\∃zs,H' A=some (.lst zs)/\Rows K H' zs (prI (jV s (L.take i)))) ⟨av _,aI hA _,⟨_,_,_,rfl⟩,[],aG,Rows.nil⟩ (λi σ1 H1 _ ⟨_,s1,_⟩ => .of (s1 _ _ hl)) (λi x σ1 H1 hx ⟨_,s1,⟨x0,x1,x2,es⟩,zs,hA1,r1⟩=>?_) λσ1 H1 ⟨_,s1,_,zs,hA1,r1⟩=>?_
 ·subst es
  have hi:i<ys.length:=(ai.mp hx).1
  obtain⟨e,b,f,he,rfl,hb,hf⟩:=gS (K:=K) (H:=H1) (cC rL λb e=>Tri.same s1) hx
  refine⟨b,_,rfl,hb,rfl,_,_,rfl,_,_,rfl,_,_,rfl,rfl,?_⟩
  refine⟨_,rfl,_,rfl,_,rfl,c,s,e.1.1,e.1.2,rfl,s1.tup hc,_,rfl,?_⟩
  have e1:jV s (L.take (i+1))=jV s (L.take i)++if prt s e.1.1 e.1.2=true then[e.2] else[]:=by
   unfold jV
   rw[fz,he,jk,bz]
   congr 1
   exact aJn (λe:(Nat×Nat)×(Int×Int)=>prt s e.1.1 e.1.2) (·.2) e
  refine nQ (λcp=>?_) λcp=>?_
  ·rw[if_pos cp] at e1
   refine⟨_,rfl,zs,hA1,bo (show zs.length<=100 by rw[r1.1];unfold prI jV;rw[af,af];have:=dj (λe:(Nat×Nat)×(Int×Int)=>prt s e.1.1 e.1.2) (L.take i);rw[b9] at this;omega) (by decide),hi,cM hA s1,⟨_,_,_,rfl⟩,_,aG,?_⟩
   rw[e1,gR]
   exact Rows.put (Rows.snoc r1 (b:=f) (r:=[e.2.1,e.2.2]) hf) hA1
  ·rw[if_neg cp,gu] at e1
   refine⟨hi,s1,⟨_,_,_,rfl⟩,zs,hA1,?_⟩
   rw[e1]
   exact r1
 ·rw[yl,dn] at r1
  refine⟨A,zs,jV s L,D,rfl,hA1,r1,lB okd λe he=>?_,?_,D0,Db,λp H2 s2 hp=>q p H2 (s1.trans s2) hp⟩
  ·obtain⟨x,hx,rfl⟩:=bt.mp he
   exact bt.mpr ⟨x,(gf.mp hx).1,rfl⟩
  ·unfold jV
   rw[af]
   have:=dj (λe:(Nat×Nat)×(Int×Int)=>prt s e.1.1 e.1.2) L
   omega
abbrev Cts:=List (List Nat×(Int×Int))
def kX (W:Cts):List (List Int×Int×Int):=W.map λe=>(e.1.map Int.ofNat,e.2)
def tW (i j:Nat) (W:Cts):Pr:=(W.filter λe=>prt e.1 i j).map (·.2)
theorem jG {H:Hp}{ys:List V}{W:Cts}(h:iM K H ys (kX W)){i:Nat}{x:V}(hx:ys[i]?=some x):∃e b q f,W[i]?=some e/\x = .ref b/\SqT K H b [.ref q, .ref f]/\SqT K H q (e.1.map dJ)/\SqT K H f [.int e.2.1, .int e.2.2]:=by
 obtain⟨row,b,hr,rfl,q,f,h1,h2,h3⟩:=aHk (show RG (Pt K H) ys (kX W) from h) hx
 unfold kX at hr
 rw[bh] at hr
 cases he:W[i]? with
 |none=>rw[he] at hr;cases hr
 |some e=>
  rw[he] at hr
  obtain rfl:(e.1.map Int.ofNat,e.2)=row:=az hr
  exact⟨e,b,q,f,rfl,rfl,h1,by rw[dM];exact h2,h3⟩
def aLg (K:ae):Sp:=λvs H Q _=>∃(l:Addr) (ys:List V) (W:Cts) (i j:Nat) (D:Int),vs=[.ref l, .int (i:Int), .int (j:Int)]/\H l=some (.lst ys)/\iM K H ys (kX W)/\W.length<=60/\OkD D (W.map (·.2))/\0<D/\D.natAbs<2 ^ 2000 /\
 ∀p H',Same H H'->H' p=some (.tup [.int (lo (dI D (tW i j W)) D).1, .int (lo (dI D (tW i j W)) D).2])->Q (.ref p) H'
theorem aKn:∀vs H Q E,aLg K vs H Q E->vE K (aHg K) (sP K) { nx:=λ_ H'=>Q .non H',rt:=Q } (bR ["some","i","j"] vs) H:=by
 intro vs H Q E h
 obtain⟨l,ys,W,a,b,D,rfl,hl,rW,z,okd,D0,Db,q⟩:=h
 have yl:ys.length=W.length:=by rw[rW.1];unfold kX;rw[af]
 refine⟨_,rfl,l,rfl, .inl ⟨⟨_, .of hl⟩,λA hA=>?_⟩⟩
 refine bJ (K:=K) (a:=l) (xs:=ys) (λi σ' H'=>i<=ys.length/\Same H H'/\(∃x0 x1,σ'=[x0,x1,some (.int (a:Int)),some (.int (b:Int))])/\∃zs,H' A=some (.lst zs)/\Rows K H' zs (prI (tW a b (W.take i)))) ⟨av _,aI hA _,⟨_,_,rfl⟩,[],aG,Rows.nil⟩ (λi σ1 H1 _ ⟨_,s1,_⟩ => .of (s1 _ _ hl)) (λi x σ1 H1 hx ⟨_,s1,⟨x0,x1,es⟩,zs,hA1,r1⟩=>?_) λσ1 H1 ⟨_,s1,_,zs,hA1,r1⟩=>?_
 ·subst es
  have hi:i<ys.length:=(ai.mp hx).1
  obtain⟨e,c,s,f,he,rfl,hb,hs,hf⟩:=jG (K:=K) (H:=H1) (cC rW λb e=>Pt.same s1) hx
  refine⟨c,_,rfl,hb,rfl,_,_,rfl,_,_,rfl,rfl,?_⟩
  refine⟨_,rfl,_,rfl,_,rfl,s,e.1,a,b,rfl,hs,_,rfl,?_⟩
  have e1:tW a b (W.take (i+1))=tW a b (W.take i)++if prt e.1 a b=true then[e.2] else[]:=by
   unfold tW
   rw[fz,he,jk,bz]
   congr 1
   exact aJn (λe:List Nat×(Int×Int)=>prt e.1 a b) (·.2) e
  refine nQ (λcp=>?_) λcp=>?_
  ·rw[if_pos cp] at e1
   refine⟨_,rfl,zs,hA1,bo (show zs.length<=100 by rw[r1.1];unfold prI tW;rw[af,af];have:=dj (λe:List Nat×(Int×Int)=>prt e.1 a b) (W.take i);rw[b9] at this;omega) (by decide),hi,cM hA s1,⟨_,_,rfl⟩,_,aG,?_⟩
   rw[e1,gR]
   exact Rows.put (Rows.snoc r1 (b:=f) (r:=[e.2.1,e.2.2]) hf) hA1
  ·rw[if_neg cp,gu] at e1
   refine⟨hi,s1,⟨_,_,rfl⟩,zs,hA1,?_⟩
   rw[e1]
   exact r1
 ·rw[yl,dn] at r1
  refine⟨A,zs,tW a b W,D,rfl,hA1,r1,lB okd λe he=>?_,?_,D0,Db,λp H2 s2 hp=>q p H2 (s1.trans s2) hp⟩
  ·obtain⟨x,hx,rfl⟩:=bt.mp he
   exact bt.mpr ⟨x,(gf.mp hx).1,rfl⟩
  ·unfold tW
   rw[af]
   have:=dj (λe:List Nat×(Int×Int)=>prt e.1 a b) W
   omega
end
section
variable {K:ae}
def frB (t b:Int):Bool:=decide (1<=b) && decide (gd t b=1)
theorem gH {H:Hp}{f:Addr}{t b:Int}(h:Fr K H f t b):Sh K H (.tup [.int t, .int b]) (.ref f):=⟨f,_,rfl,h,ShL.ints [t,b]⟩
def aKA (K:ae):Sp:=λvs H Q _=>∃(f:Addr) (t b:Int),vs=[.ref f]/\Fr K H f t b/\∀H',Same H H'->Q (.bl (frB t b)) H'
theorem aJJ:∀vs H Q E,aKA K vs H Q E->kR K (L.spWs K) aJr { nx:=λ_ H'=>Q .non H',rt:=Q } (bR ["thing","top","bottom"] vs) H:=by
 intro vs H Q E h
 obtain⟨f,t,b,rfl,hf,q⟩:=h
 refine⟨_,rfl, .ref f, .tup [.int t, .int b],rfl,gH hf,λds e=>by cases e;exact(show 2<=1000 by decide),λH1 s1=>⟨_,rfl,bB rfl ?_⟩⟩
 have hf1:Fr K H1 f t b:=s1.tup hf
 refine⟨_,rfl,f,_,rfl, .inr hf1, .int 2, .int 2,av _,rfl,rfl,_,rfl,bB rfl ?_⟩
 refine⟨_,rfl,f,_,rfl,hf1,rfl,_,_,rfl,_,_,rfl,rfl,?_⟩
 have q:=q H1 s1
 unfold frB at q
 refine⟨_,rfl,_,_,rfl,rfl,_,rfl,nQ (λc=>?_) λc=>?_⟩
 ·have c:decide ((1:Int)<=b)=true:=c
  rw[c,ff] at q
  refine⟨_,rfl,_,rfl,t,b,rfl, .int _, .int 1,av _,rfl,rfl,?_⟩
  rw[show eqD (.int (gd t b)) (.int 1)=decide (gd t b=1) by rw[eqD];rfl]
  exact q
 ·have c:decide ((1:Int)<=b)=false:=dq _ |>.mp c
  rw[c,gy] at q
  exact q
def Odd (K:ae) (H:Hp) (k:Nat) (x:V):Prop:=∃d,Sh K H d x/\(aEP d "tuple" = false\/∃ds,d = .tup ds/\ds.length≠k)
theorem Odd.same {H H':Hp}{k:Nat}{x:V}(s:Same H H')(h:Odd K H k x):Odd K H' k x:=let⟨d,h1,h2⟩:=h;⟨d,h1.same s,h2⟩
def shB (n:Nat) (i j t z:Int):Bool:=decide (0<=i) && (decide (i<j) && (decide (j<(n:Int)) && (frB t z && decide (0<t))))
def aLc (K:ae):Sp:=λvs H Q _=>∃(n:Nat) (x:V),vs=[.int (n:Int),x]/\((Odd K H 3 x/\∀H',Same H H'->Q (.bl false) H')\/∃(b f:Addr) (i j t z:Int),x = .ref b/\SqT K H b [.int i, .int j, .ref f]/\Fr K H f t z/\∀H',Same H H'->Q (.bl (shB n i j t z)) H')
theorem aFc {a b:Nat}(h:a≠b):(!eqD (.int (a:Int)) (.int (b:Int)))=true:=by rw[aCl,decide_eq_false h];rfl
theorem aJD:∀vs H Q E,aLc K vs H Q E->rE K (L.spWs K) (aKA K) { nx:=λ_ H'=>Q .non H',rt:=Q } (bR ["many","thing","i","j","share"] vs) H:=by
 intro vs H Q E h
 obtain⟨n,x,rfl,⟨⟨d,hd,od⟩,q⟩ | ⟨b,f,i,j,t,z,rfl,hb,hf,q⟩⟩:=h
 ·refine⟨_,rfl,x,d,"tuple",rfl,by decide,hd,_,rfl,?_⟩
  rcases od with od | ⟨ds,rfl,hl⟩
  ·exact cT (by rw[od];rfl) (cT rfl (q H (Same.refl _)))
  ·obtain⟨a,xs,rfl,ha,hL⟩:=hd
   refine bB rfl ⟨_,rfl,a,xs,rfl, .inr ha, .int _, .int ((3:Nat):Int),av _,rfl,rfl,_,rfl,cT (aFc (by rw[<- hL.length];exact hl)) (cT rfl (q H (Same.refl _)))⟩
 ·have hd:Sh K H (.tup [.int i, .int j, .tup [.int t, .int z]]) (.ref b):=⟨b,_,rfl,hb,_,_,rfl,rfl,_,_,rfl,rfl,_,_,rfl,gH hf,rfl⟩
  refine⟨_,rfl, .ref b,_,"tuple",rfl,by decide,hd,_,rfl,bB rfl ⟨_,rfl,b,_,rfl, .inr hb, .int 3, .int 3,av _,rfl,rfl,_,rfl,bB rfl ⟨_,rfl,2,rfl, .inr ⟨b,_,rfl,hb,λp H1 s1 hp=>?_⟩⟩⟩⟩
  have hp:SqT K H1 p [.int i, .int j]:=hp
  refine⟨.ref p, .tup [.int i, .int j],rfl,⟨p,_,rfl,hp,ShL.ints [i,j]⟩,λds e=>by cases e;exact(show 2<=1000 by decide),λH2 s2=>⟨_,rfl,bB rfl ?_⟩⟩
  have s12:=s1.trans s2
  refine⟨_,rfl,b,_,rfl,s12.tup hb,rfl,_,_,rfl,_,_,rfl,_,_,rfl,rfl,?_⟩
  have q2:=q H2 s12
  unfold shB at q2
  refine⟨_,rfl,_,_,rfl,rfl,_,rfl,nQ (λc=>?_) λc=>?_⟩
  ·have c:decide ((0:Int)<=i)=true:=c
   rw[c,ff] at q2
   refine⟨_,rfl,_,_,rfl,rfl,_,rfl,nQ (λc=>?_) λc=>?_⟩
   ·have c:decide (i<j)=true:=c
    rw[c,ff] at q2
    refine⟨_,rfl,_,_,rfl,rfl,_,rfl,nQ (λc=>?_) λc=>?_⟩
    ·have c:decide (j<(n:Int))=true:=c
     rw[c,ff] at q2
     refine⟨_,rfl,f,t,z,rfl,s12.tup hf,λH3 s3=>⟨_,rfl,?_⟩⟩
     have q3:=q H3 (s12.trans s3)
     unfold shB at q3
     have c1:decide ((0:Int)<=i)=true:=by assumption
     rw[c1,‹decide (i<j)=true›,c,ff,ff,ff] at q3
     refine nQ (λc=>?_) λc=>?_
     ·rw[c,ff] at q3
      exact⟨_,rfl,ixT (j:=0) ((s12.trans s3).tup hf) rfl ⟨_,_,rfl,rfl,q3⟩⟩
     ·rw[dq _ |>.mp c,gy] at q3
      exact q3
    ·have c:decide (j<(n:Int))=false:=dq _ |>.mp c
     rw[c,gy] at q2
     exact q2
   ·have c:decide (i<j)=false:=dq _ |>.mp c
    rw[c,gy] at q2
    exact⟨_,rfl,bB rfl q2⟩
  ·have c:decide ((0:Int)<=i)=false:=dq _ |>.mp c
   rw[c,gy] at q2
   exact⟨_,rfl,bB rfl q2⟩
def ctB (s:List Nat) (t z:Int):Bool:=frB t z && (decide (0<t) || (decide (s.length=1) && decide (t<0)))
def aKO (K:ae):Sp:=λvs H Q _=>∃(n:Nat) (x:V),vs=[.int (n:Int),x]/\((Odd K H 2 x/\∀H',Same H H'->Q (.bl false) H')\/∃(b q f:Addr) (s:List Nat) (t z:Int),1<=n/\n<=6/\x = .ref b/\SqT K H b [.ref q, .ref f]/\SqT K H q (s.map dJ)/\s∈cW n/\Fr K H f t z/\∀H',Same H H'->Q (.bl (ctB s t z)) H')
theorem aJz:∀vs H Q E,aKO K vs H Q E->aAD K (aJs K) (L.spWs K) (aKA K) { nx:=λ_ H'=>Q .non H',rt:=Q } (bR ["many","thing","cut","price"] vs) H:=by
 intro vs H Q E h
 obtain⟨n,x,rfl,⟨⟨d,hd,od⟩,q⟩ | ⟨b,p,f,s,t,z,n1,n6,rfl,hb,hp,hs,hf,q⟩⟩:=h
 ·refine⟨_,rfl,x,d,"tuple",rfl,by decide,hd,_,rfl,?_⟩
  rcases od with od | ⟨ds,rfl,hl⟩
  ·exact cT (by rw[od];rfl) (cT rfl (q H (Same.refl _)))
  ·obtain⟨a,xs,rfl,ha,hL⟩:=hd
   refine bB rfl ⟨_,rfl,a,xs,rfl, .inr ha, .int _, .int ((2:Nat):Int),av _,rfl,rfl,_,rfl,cT (aFc (by rw[<- hL.length];exact hl)) (q H (Same.refl _))⟩
 ·have hp':Sh K H (.tup ((s.map Int.ofNat).map Dt.int)) (.ref p):=⟨p,_,rfl,by rw[<- dM];exact hp,ShL.ints _⟩
  have hd:Sh K H (.tup [.tup ((s.map Int.ofNat).map Dt.int), .tup [.int t, .int z]]) (.ref b):=⟨b,_,rfl,hb,_,_,rfl,hp',_,_,rfl,gH hf,rfl⟩
  refine⟨_,rfl, .ref b,_,"tuple",rfl,by decide,hd,_,rfl,bB rfl ⟨_,rfl,b,_,rfl, .inr hb, .int 2, .int 2,av _,rfl,rfl,_,rfl,bB rfl ?_⟩⟩
  refine⟨_,rfl,b,_,rfl,hb,rfl,_,_,rfl,_,_,rfl,rfl,?_⟩
  have sl:=(pK hs).1
  refine⟨_,rfl, .ref p,_,rfl,hp',λds e=>by cases e;rw[af,af];omega,λH1 s1=>⟨_,rfl,bB ?_ ?_⟩⟩
  ·show(!(((s.map Int.ofNat).map Dt.int).all L.whD))=false
   rw[u3,show((s.map Int.ofNat).all (L.whD∘Dt.int))=true from bw.mpr λ_ _=>rfl]
   rfl
  refine⟨_,rfl,_,rfl,n,rfl,n1,n6,λF ys H2 s2 _ hF rF=>?_⟩
  have s12:=s1.trans s2
  refine .inr ⟨p,F,s.map Int.ofNat,ys,nN (cW n),rfl,rfl,by rw[<- dM];exact s12.tup hp, .inl (.of hF),rF,_,rfl,bB ?_ ?_⟩
  ·show(!decide (s.map Int.ofNat∈nN (cW n)))=false
   rw[decide_eq_true (show s.map Int.ofNat∈nN (cW n) from bt.mpr ⟨s,hs,rfl⟩)]
   rfl
  refine⟨_,rfl,f,t,z,rfl,s12.tup hf,λH3 s3=>⟨_,rfl,?_⟩⟩
  have s13:=s12.trans s3
  have q:=q H3 s13
  unfold ctB at q
  cases c:frB t z with
  |false=>
   rw[c,gy] at q
   exact cT rfl q
  |true=>
   rw[c,ff] at q
   refine bB rfl ⟨_,rfl,ixT (j:=0) (s13.tup hf) rfl ⟨_,_,rfl,rfl,_,rfl,nQ (λc=>?_) λc=>?_⟩⟩
   ·have c:decide (0<t)=true:=c
    rw[c,Ay] at q
    exact q
   ·have c:decide (0<t)=false:=dq _ |>.mp c
    rw[c,sk] at q
    refine⟨_,rfl,p,_,rfl, .inr (s13.tup hp), .int (s.length:Int), .int ((1:Nat):Int),av _,by rw[af];rfl,rfl,_,rfl,?_⟩
    rw[aCl]
    refine nQ (λc=>?_) λc=>?_
    ·rw[c,ff] at q
     exact⟨_,rfl,ixT (j:=0) (s13.tup hf) rfl ⟨_,_,rfl,rfl,q⟩⟩
    ·rw[dq _ |>.mp c,gy] at q
     exact q
def aFX (R:List (List Int)):List Bool:=(aq (R.length - 1)).map λi=>HT.lexLt (R.getD i []) (R.getD (i+1) [])
def aJT (K:ae):Sp:=λvs H Q _=>∃(l:Addr) (xs:List V) (R:List (List Int)),vs=[.ref l]/\H l=some (.lst xs)/\Rows K H xs R/\R.length<=100/\∀H',Same H H'->Q (.bl ((aFX R).all id)) H'
theorem aJG:∀vs H Q E,aJT K vs H Q E->wM K { nx:=λ_ H'=>Q .non H',rt:=Q } (bR ["some"] vs) H:=by
 intro vs H Q E h
 obtain⟨l,xs,R,rfl,hl,rR,z,q⟩:=h
 refine⟨_,rfl,_,rfl,1,rfl, .inl ⟨l,xs,rfl, .of hl,λp hp=>?_⟩⟩
 have ec:vB xs (some 1) none=xs.drop 1:=by
  unfold vB
  rw[show(some 1:Option Int)=some ((1:Nat):Int) from rfl,HT.sIx_nat,HT.sIx_none]
  by_cases c:xs.length=0
  ·rw[mh.mp c];rfl
  ·rw[show min 1 xs.length=1 by omega,List.take_of_length_le (by rw[jn];omega)]
 rw[ec]
 have mp:=aI hp (.lst (xs.drop 1))
 have hp1:(upd H p (.lst (xs.drop 1))) p=some (.lst (xs.drop 1)):=aG
 generalize upd H p (.lst (xs.drop 1))=G at *
 have dl:(xs.drop 1).length=R.length - 1:=by rw[jn,rR.1]
 refine⟨l,p,true,true,rfl,⟨_, .of (mp _ _ hl)⟩,⟨_, .of hp1⟩,λA hA=>?_⟩
 refine sQ (K:=K) (b1:=true) (b2:=true) (l1:=l) (l2:=p) (xs:=xs) (ys:=xs.drop 1) (by rw[jn];omega) (λi σ' H'=>i<=R.length - 1/\Same G H'/\σ'.length=2/\H' A=some (.lst (((aq i).map λi=>HT.lexLt (R.getD i []) (R.getD (i+1) [])).map V.bl))) ⟨av _,aI hA _,rfl,aG⟩ (λi σ1 H1 _ ⟨_,s1,_⟩=>⟨.of (s1 _ _ (mp _ _ hl)), .of (s1 _ _ hp1)⟩) (λi x y σ1 H1 t hx hy ht ⟨_,s1,l2,hA1⟩=>?_) λσ1 H1 ⟨_,s1,_,hA1⟩=>?_
 ·have hi:i<R.length - 1:=by have:=(ai.mp hy).1;omega
  rw[k9] at hy
  have rG:=rR.same (mp.trans s1)
  obtain⟨b1,e1,g1⟩:=rG.2 i (R.getD i []) (by rw[ak,ah (show i<R.length by omega)];rfl)
  obtain⟨b2,e2,g2⟩:=rG.2 (i+1) (R.getD (i+1) []) (by rw[ak,ah (show i+1<R.length by omega)];rfl)
  rw[hx] at e1
  rw[show 1+i=i+1 by omega,e2] at hy
  obtain rfl:x = .ref b1:=az e1
  obtain rfl:V.ref b2=y:=az hy
  have mt:=aI ht (.tup [V.ref b1, .ref b2])
  obtain⟨x0,x1,rfl⟩:∃x0 x1,σ1=[x0,x1]:=by
   match σ1,l2 with
   |[x0,x1],_=>exact⟨x0,x1,rfl⟩
  refine⟨t,_,rfl, .of aG,rfl,_,_,rfl,_,_,rfl,rfl,?_⟩
  refine⟨_,rfl,_,rfl,b1,b2,_,_,rfl,rfl,mt.tup g1,mt.tup g2,_,mt _ _ hA1,?_,hi,cM hA (s1.trans mt),rfl,?_⟩
  ·rw[af,af,e7]
   exact bo (show i<=100 by omega) (by decide)
  ·rw[aG,xq,bz,bz]
   rfl
 ·rw[dl] at hA1
  exact⟨A,aFX R,rfl, .inl (.of hA1),q H1 (mp.trans s1)⟩
end
def aFv (D:Int) (L:Shs) (p:Nat):Bool:=decide ([(lo (dI D (jV [p] L)) D).1,(lo (dI D (jV [p] L)) D).2]=[(2:Int),1])
def uN (D:Int) (L:Shs) (s:List Nat):Bool:=decide ((lo (dI D (jV s L)) D).1*1<2*(lo (dI D (jV s L)) D).2)
def wrS (T:List (List Int)) (L:Shs):Pr:=L.map λe=>lo (e.2.1*at2 T e.1.1 e.1.2) (e.2.2*1)
def pr2 (L:Shs):List (List Int):=L.map λe=>[(e.1.1:Int),(e.1.2:Int)]
def eqB (t a:Int×Int):Bool:=decide ([t.1,t.2]=[a.1,a.2])
def jK (T:List (List Int)) (n:Nat) (D:Int) (L:Shs) (a:Int×Int):Bool:=(aFX (pr2 L)).all id && (((aq n).all (aFv D L)) && (!((cW n).any (uN D L)) && eqB (lo (dI D (wrS T L)) D) a))
def Unf (C1 C2 C3:Addr) (T:List (List Int)) (n:Nat) (H:Hp) (E:XK) (ok:Prop):Prop:=
 ((lP T n).all id=false/\∀H',Same H H'->E (.ref C1) none H')\/(Sy T n/\((n<3/\∀H',Same H H'->E (.ref C2) none H')\/(6<n/\∀H',Same H H'->E (.ref C3) none H')\/(3<=n/\n<=6/\ok)))
theorem aEQ {D:Int}{y:Nat}:∀{P:Pr},(∀e∈P,(e.1*(D / e.2)).natAbs<=y)->(dI D P).natAbs<=P.length*y
 |[],_=>av _
 |e :: P,h=>by
  have i1:=aEQ (P:=P) λx hx=>h x (bf _ hx)
  have i2:=h e (bp ..)
  have i3:=Int.natAbs_add_le (e.1*(D / e.2)) (dI D P)
  show(e.1*(D / e.2)+dI D P).natAbs<=_
  rw[cy,AN,Nat.one_mul]
  omega
theorem aLB (k:Nat):100*2 ^ k<2 ^ (7+k):=by
 rw[Nat.pow_add]
 exact Nat.mul_lt_mul_of_pos_right (by decide) (Nat.pow_pos (by decide))
theorem rH {D:Int}{P:Pr}{a b:Nat}(D0:0<D)(Db:D.natAbs<2 ^ b)(h:∀e∈P,0<e.2/\e.1.natAbs<2 ^ a)(hl:P.length<=100):(dI D P).natAbs<2 ^ (7+(a+b)):=
 bo (aEQ λe he=>ig (sI (h e he).2 (pI (h e he).1 D0 Db))) (bo (yz _ hl) (aLB (a+b)))
theorem pG {D:Int}{P:Pr}(D0:0<D)(Db:D.natAbs<2 ^ 2000)(h:OkD D P)(hl:P.length<=100):(dI D P).natAbs<2 ^ (7+(2000+2000)):=rH D0 Db (λe he=>⟨(h e he).1,(h e he).2.2⟩) hl
theorem hU {i j:Int}(h:0<j):0<(lo i j).2:=(kH (i:=i) h).2.2.1
theorem gX {i j:Int}{k:Nat}(h:0<j)(hi:i.natAbs<2 ^ k):(lo i j).1.natAbs<2 ^ k:=aIr h hi
theorem oJ {i j:Int}(h:0<j):(lo i j).2 ∣ j:=⟨gd i j,by have:=(kH (i:=i) h).2.1;rw[de];exact this⟩
theorem kI {i j:Int}{k:Nat}(h:0<j)(hj:j.natAbs<2 ^ k):(lo i j).2.natAbs<2 ^ k:=dW (hU h) h (oJ h) hj
theorem up8 {x:Int}{k:Nat}(h:x.natAbs<2 ^ k)(hk:k<=8000):x.natAbs<2 ^ 8000:=aw h (br (by decide) hk)
section
variable {K:ae}
def aHV (K : ae) (C1 C2 C3 : Addr) : Sp := λvs H Q E => ∃(v x y : V) (T : List (List Int)) (n : Nat), vs = [v, x, y] /\ Sh K H (uZ T) v /\ Quad T n /\ 1 <= n /\ n <= 8 /\ Unf C1 C2 C3 T n H E (∃(l w : Addr) (a : Int×Int) (ys : List V), x = .ref l /\ y = .ref w /\ Bs T n /\ Fr K H w a.1 a.2 /\ H l = some (.lst ys) /\
  ((∃x, ys = [x] /\ (Odd K H 3 x \/ ∃(b f : Addr) (i j t z : Int), x = .ref b /\ SqT K H b [.int i, .int j, .ref f] /\ Fr K H f t z /\ shB n i j t z = false) /\ ∀H', Same H H' -> Q (.bl false) H') \/
   ∃(L : Shs) (D : Int), zD K H ys (jL L) /\ L.length <= 60 /\ (∀e ∈ L, shB n e.1.1 e.1.2 e.2.1 e.2.2 = true /\ e.1.1 < n /\ e.1.2 < n) /\ OkD D (L.map (·.2)) /\ (∀e ∈ L, e.2.1.natAbs < 2 ^ 1000) /\ 0 < D /\ D.natAbs < 2 ^ 2000 /\ ∀H', Same H H' -> Q (.bl (jK T n D L a)) H'))
theorem aFx {α β:Type}(L:List α)(d:α)(f:α->β):L.map f=(aq L.length).map λi=>f (L.getD i d):=by
 apply oz
 ·simp
 ·intro i h1 h2
  rw[jq,jq,m3,ak,ah (by simpa using h1)]
  rfl
theorem fI {α β:Type}{L:List α}{i:Nat}{e:α}(f:α->β)(h:L[i]?=some e):(L.take (i+1)).map f=(L.take i).map f++[f e]:=by
 rw[fz,h,bz]
 rfl
theorem aIk {C1 C2 C3 C2':Addr}(hT2:∀H:Hp,Fr K H C2' 2 1):∀vs H Q E,aHV K C1 C2 C3 vs H Q E->mP K C2' E (aJs K) (aJT K) (aKa K) (aLc K) (aJt K) (aHc K) (sP K) (aJg K C1 C2 C3) { nx:=λ_ H'=>Q .non H',rt:=Q } (bR ["table","some","worth","many"] vs) H:=by
 intro vs H Q E h
 obtain⟨v,x,y,T,n,rfl,hT,qT,n1,n8,q⟩:=h
 refine⟨_,rfl,v,T,n,rfl,hT,qT,n1,n8,?_⟩
 rcases q with q | ⟨sy,q | q | ⟨n3,n6,l,w,a,ys,rfl,rfl,bT,hw,hl,q⟩⟩
 ·exact .inl q
 ·exact .inr ⟨sy, .inl q⟩
 ·exact .inr ⟨sy, .inr (.inl q)⟩
 refine .inr ⟨sy, .inr (.inr ⟨n3,n6,λH1 s1=>?_⟩)⟩
 obtain⟨ta,rs,rfl,ha,hrl,_⟩:=id hT.tab
 have hrl:rs.length=n:=hrl.trans qT.len
 refine⟨_,rfl,ta,rs,rfl, .inr (s1.tup ha),?_⟩
 rw[hrl]
 refine⟨_,rfl,l,rfl, .inl ⟨⟨_, .of (s1 _ _ hl)⟩,λA hA=>?_⟩⟩
 have hv:∀H',SameX A (upd H1 A (.lst [])) H'->Same H1 H':=λH' sx=>cI hA sx
 rcases q with⟨x,rfl,od,q⟩ | ⟨L,D,rL,z,okL,okd,tb,D0,Db,q⟩
 ·refine bP [0] ([false].map V.bl) hA (by decide) (fQ (K:=K) (a:=l) (xs:=[x]) (j:=0) (L:=λ_=>[V.bl false]) (by decide) (by show 0<2;decide) (λH' sx => .of (hv H' sx _ _ (s1 _ _ hl))) λi x' σ2 H2 hx l2 ag2 t0 sx2 _=>?_) λσ2 H2 s2 hA2=>⟨A,[false],rfl, .inl (.of hA2),_,rfl,cT rfl (cT rfl (q H2 (s1.trans s2)))⟩
  have t1:σ2[1]?=some (some (.int (n:Int))):=(ag2 1 (by decide)).trans rfl
  obtain rfl:x=x':=by
   match i,hx with
   |0,hx=>exact az hx
  refine cL λR hR=>⟨_,t1,_,t0,n,x,rfl,?_⟩
  rcases od with od | ⟨b,f,i,j,t,z,rfl,hb,hf,hB⟩
  ·exact .inl ⟨od.same (s1.trans (hv _ sx2)),hR⟩
  ·refine .inr ⟨b,f,i,j,t,z,rfl,(s1.trans (hv _ sx2)).tup hb,(s1.trans (hv _ sx2)).tup hf,?_⟩
   rw[hB]
   exact hR
 have yl:ys.length=L.length:=by rw[rL.1];unfold jL;rw[af]
 refine bP [0] (((aq ys.length).map λ_=>true).map V.bl) hA (by rw[af,af,e7];omega) (Emits.cast (fQ (K:=K) (a:=l) (xs:=ys) (j:=0) (L:=λ_=>[V.bl true]) (by decide) (by show 0<2;decide) (λH' sx => .of (hv H' sx _ _ (s1 _ _ hl))) λi x' σ2 H2 hx l2 ag2 t0 sx2 _=>?_) (by rw[nI,dr];rfl)) λσ2 H2 s2 hA2=>?_
 ·have t1:σ2[1]?=some (some (.int (n:Int))):=(ag2 1 (by decide)).trans rfl
  obtain⟨e,b,f,he,rfl,hb,hf⟩:=gS (K:=K) (H:=H2) (cC rL λb e=>Tri.same (s1.trans (hv _ sx2))) hx
  have:=okL e (au he)
  refine cL λR hR=>⟨_,t1,_,t0,n,_,rfl, .inr ⟨b,f,e.1.1,e.1.2,e.2.1,e.2.2,rfl,hb,hf,?_⟩⟩
  rw[this.1]
  exact hR
 refine⟨A,(aq ys.length).map λ_=>true,rfl, .inl (.of hA2),_,rfl,bB ?_ ?_⟩
 ·show(!(((aq ys.length).map λ_=>true).all id))=false
  rw[show(((aq ys.length).map λ_=>true).all id)=true from bw.mpr λb hb=>by obtain⟨_,_,rfl⟩:=bt.mp hb;rfl]
  rfl
 have s12:=s1.trans s2
 refine⟨_,rfl,l,rfl, .inl ⟨⟨_, .of (s12 _ _ hl)⟩,λB hB=>?_⟩⟩
 refine bJ (K:=K) (a:=l) (xs:=ys) (λi σ' H'=>i<=ys.length/\Same H2 H'/\(∃x0,σ'=[x0])/\∃zs,H' B=some (.lst zs)/\Rows K H' zs (pr2 (L.take i))) ⟨av _,aI hB _,⟨_,rfl⟩,[],aG,Rows.nil⟩ (λi σ3 H3 _ ⟨_,s3,_⟩ => .of (s3 _ _ (s12 _ _ hl))) (λi x' σ3 H3 hx ⟨_,s3,⟨x0,es⟩,zs,hB3,r3⟩=>?_) λσ3 H3 ⟨_,s3,_,zs,hB3,r3⟩=>?_
 ·subst es
  have hi:i<ys.length:=(ai.mp hx).1
  obtain⟨e,b,f,he,rfl,hb,hf⟩:=gS (K:=K) (H:=H3) (cC rL λb e=>Tri.same (s12.trans s3)) hx
  refine⟨_,rfl,2,rfl, .inr ⟨b,_,rfl,hb,λp H4 s4 hp=>?_⟩⟩
  have hB4:=s4 _ _ hB3
  refine⟨zs,hB4,bo (show zs.length<=100 by rw[r3.1];unfold pr2;rw[af,b9];omega) (by decide),hi,cM hB (s3.trans s4),⟨_,rfl⟩,_,aG,?_⟩
  unfold pr2 at r3 ⊢
  rw[fI _ he]
  exact Rows.put (Rows.snoc (r3.same s4) (b:=p) (r:=[(e.1.1:Int),(e.1.2:Int)]) hp) hB4
 rw[yl,dn] at r3
 have s13:=s12.trans s3
 refine⟨B,zs,pr2 L,rfl,hB3,r3,by unfold pr2;rw[af];omega,λH4 s4=>⟨_,rfl,?_⟩⟩
 have s14:=s13.trans s4
 have q4:=q
 cases c1:(aFX (pr2 L)).all id with
 |false=>
  refine cT rfl ?_
  have:=q4 H4 s14
  unfold jK at this
  rw[c1,gy] at this
  exact this
 |true=>
 refine bB rfl ⟨_,rfl,(n:Int),rfl,by omega,by omega,λA4 hA4=>?_⟩
 rw[bu]
 have hv4:∀H',SameX A4 (upd H4 A4 (.lst [])) H'->Same H4 H':=λH' sx=>cI hA4 sx
 refine bP [0] (((aq n).map (aFv D L)).map V.bl) hA4 (by rw[af,af,e7];omega) (Emits.cast (iZ (n:=n) (lo:=0) (j:=0) (L:=λi=>[V.bl (aFv D L i)]) (by decide) (by show 0<2;decide) λi σ5 H5 hi l5 ag5 t0 sx5 _=>?_) (by rw[nI,dr];rfl)) λσ5 H5 s5 hA5=>?_
 ·have t1:σ5[1]?=some (some (.ref l)):=(ag5 1 (by decide)).trans rfl
  rw[kh] at t0
  refine cL λR hR=>⟨_,t1,_,t0,show 1<=bx by decide,λc hc=>?_⟩
  have mc:=aI hc (.tup [V.int (i:Int)])
  have sA:=(s14.trans (hv4 _ sx5)).trans mc
  refine⟨l,c,ys,L,[i],D,rfl,sA _ _ hl,cC rL λb e=>Tri.same sA,z, .of aG,okd,D0,Db,λp H6 s6 hp=>?_⟩
  refine⟨.tup ([(lo (dI D (jV [i] L)) D).1,(lo (dI D (jV [i] L)) D).2].map Dt.int), .tup ([(2:Int),1].map Dt.int),eJ _,⟨p,_,rfl, .of hp,ShL.ints [(lo (dI D (jV [i] L)) D).1,(lo (dI D (jV [i] L)) D).2]⟩,⟨C2',_,rfl,hT2 H6,ShL.ints [(2:Int),1]⟩,?_⟩
  rw[oE]
  exact hR _ (mc.trans s6)
 have s15:=s14.trans s5
 refine⟨A4,(aq n).map (aFv D L),rfl, .inl (.of hA5),_,rfl,?_⟩
 rw[u3]
 show if(!((aq n).all (aFv D L)))=true then _ else _
 cases c2:(aq n).all (aFv D L) with
 |false=>
  refine cT rfl ?_
  have:=q4 H5 s15
  unfold jK at this
  rw[c1,c2,ff,gy] at this
  exact this
 |true=>
 refine bB rfl ⟨_,rfl,n,rfl,n1,n6,λF6 us H6 s6 _ hF6 r6=>⟨F6,rfl, .inl ⟨⟨_, .of hF6⟩,λA6 hA6=>?_⟩⟩⟩
 have ul:us.length=(cW n).length:=by rw[r6.1,eI]
 have s16:=s15.trans s6
 have hv6:∀H',SameX A6 (upd H6 A6 (.lst [])) H'->Same H6 H':=λH' sx=>cI hA6 sx
 refine bP [0] (((cW n).map (uN D L)).map V.bl) hA6 (by rw[af,af];have:=uG n6;omega) (Emits.cast (fQ (K:=K) (a:=F6) (xs:=us) (j:=0) (L:=λi=>[V.bl (uN D L ((cW n).getD i []))]) (by decide) (by show 0<2;decide) (λH' sx => .of (hv6 H' sx _ _ hF6)) λi x' σ7 H7 hx l7 ag7 t0 sx7 _=>?_) (by rw[nI,dr,ul];exact(aFx (cW n) [] (λs=>V.bl (uN D L s))).symm)) λσ7 H7 s7 hA7=>?_
 ·have t1:σ7[1]?=some (some (.ref l)):=(ag7 1 (by decide)).trans rfl
  obtain⟨s,b,hs,rfl,hb⟩:=jP (r6.same (hv6 _ sx7)) hx
  rw[dU hs]
  have sA:=s16.trans (hv6 _ sx7)
  refine cL λR hR=>⟨_,t1,_,t0,l,b,ys,L,s,D,rfl,sA _ _ hl,cC rL λb e=>Tri.same sA,z,hb,okd,D0,Db,λp H8 s8 hp=>?_⟩
  have ok2:OkD D (jV s L):=lB okd λe he=>by
   obtain⟨x,hx,rfl⟩:=bt.mp he
   exact bt.mpr ⟨x,(gf.mp hx).1,rfl⟩
  have sb:=pG D0 Db ok2 (by unfold jV;rw[af];have:=dj (λe:(Nat×Nat)×(Int×Int)=>prt s e.1.1 e.1.2) L;omega)
  exact⟨p,C2',_,_,2,1,rfl, .of hp,hT2 H8,up8 (gX D0 sb) (by decide),up8 (kI D0 Db) (by decide),up8 (k:=2) (by decide) (by decide),up8 (k:=2) (by decide) (by decide),hR _ s8⟩
 have s17:=s16.trans s7
 refine⟨A6,(cW n).map (uN D L),rfl, .inl (.of hA7),_,rfl,?_⟩
 rw[yi]
 show if((cW n).any (uN D L))=true then _ else _
 cases c3:(cW n).any (uN D L) with
 |true=>
  refine cT rfl ?_
  have:=q4 H7 s17
  unfold jK at this
  rw[c1,c2,c3,ff,ff] at this
  exact this
 |false=>
 refine bB rfl ⟨_,rfl,l,rfl, .inl ⟨⟨_, .of (s17 _ _ hl)⟩,λB8 hB8=>?_⟩⟩
 refine bJ (K:=K) (a:=l) (xs:=ys) (λi σ' H'=>i<=ys.length/\Same H7 H'/\(∃x0 x1 x2,σ'=[x0,x1,x2,some (.ref ta)])/\∃zs,H' B8=some (.lst zs)/\Rows K H' zs (prI (wrS T (L.take i)))) ⟨av _,aI hB8 _,⟨_,_,_,rfl⟩,[],aG,Rows.nil⟩ (λi σ8 H8 _ ⟨_,s8,_⟩ => .of (s8 _ _ (s17 _ _ hl))) (λi x' σ8 H8 hx ⟨_,s8,⟨x0,x1,x2,es⟩,us2,hB9,r9⟩=>?_) λσ8 H8 ⟨_,s8,_,us2,hB9,r9⟩=>?_
 ·subst es
  have hi:i<ys.length:=(ai.mp hx).1
  obtain⟨e,b,f,he,rfl,hb,hf⟩:=gS (K:=K) (H:=H8) (cC rL λb e=>Tri.same (s17.trans s8)) hx
  obtain⟨_,g1,g2⟩:=okL e (au he)
  refine⟨b,_,rfl,hb,rfl,_,_,rfl,_,_,rfl,_,_,rfl,rfl,?_⟩
  refine⟨_,rfl,pM (t:=3) (si:=0) (sj:=1) (i:=e.1.1) (j:=e.1.2) rfl rfl rfl (hT.same (s17.trans s8)) qT g1 g2 ⟨show 2<=bx by decide,λu hu=>?_⟩⟩
  have mu:=aI hu (.tup [V.int (at2 T e.1.1 e.1.2), .int 1])
  obtain⟨e0,ed,_⟩:=okd e.2 (bt.mpr ⟨e,au he,rfl⟩)
  have wb:=bT _ _ g1 g2
  refine⟨f,u,e.2.1,e.2.2,at2 T e.1.1 e.1.2,1,rfl,mu.tup hf, .of aG,aw (tb e (au he)) (br (by decide) (by decide)),dW e0 D0 ed Db,aw (show(at2 T e.1.1 e.1.2).natAbs<2 ^ 20 by omega) (br (by decide) (by decide)),aw (show(1:Int).natAbs<2 ^ 1 by decide) (br (by decide) (by decide)),e0,by decide,λp H9 s9 hp=>?_⟩
  have s10:=mu.trans s9
  have hB10:=s10 _ _ hB9
  refine⟨us2,hB10,bo (show us2.length<=100 by rw[r9.1];unfold prI wrS;rw[af,af,b9];omega) (by decide),hi,cM hB8 (s8.trans s10),⟨_,_,_,rfl⟩,_,aG,?_⟩
  unfold wrS at r9 ⊢
  rw[fI _ he,gR]
  exact Rows.put (Rows.snoc (r9.same s10) (b:=p) (r:=[_,_]) (.of hp)) hB10
 rw[yl,dn] at r9
 have okw:OkD D (wrS T L):=λx hx=>by
  obtain⟨e,he,rfl⟩:=bt.mp hx
  obtain⟨e0,ed,_⟩:=okd e.2 (bt.mpr ⟨e,he,rfl⟩)
  obtain⟨_,g1,g2⟩:=okL e he
  have wb:=bT _ _ g1 g2
  rw[kl]
  refine⟨hU e0,Int.dvd_trans (oJ e0) ed,gX e0 (aw (sI (tb e he) (show(at2 T e.1.1 e.1.2).natAbs<2 ^ 20 by omega)) (br (by decide) (by decide)))⟩
 refine⟨B8,us2,wrS T L,D,rfl,hB9,r9,okw,by unfold wrS;rw[af];omega,D0,Db,λp H9 s9 hp=>⟨_,rfl,?_⟩⟩
 have s18:=(s17.trans s8).trans s9
 refine⟨.tup ([(lo (dI D (wrS T L)) D).1,(lo (dI D (wrS T L)) D).2].map Dt.int), .tup ([a.1,a.2].map Dt.int),eJ _,⟨p,_,rfl, .of hp,ShL.ints [(lo (dI D (wrS T L)) D).1,(lo (dI D (wrS T L)) D).2]⟩,⟨w,_,rfl,s18.tup hw,ShL.ints [a.1,a.2]⟩,?_⟩
 rw[oE]
 have:=q4 H9 s18
 unfold jK at this
 rw[c1,c2,c3,ff,ff] at this
 exact this
end
def aEz (T:List (List Int)) (D:Int) (W:Cts) (e:Nat×Nat):Bool:=decide (at2 T e.1 e.2*(lo (dI D (tW e.1 e.2 W)) D).2<(lo (dI D (tW e.1 e.2 W)) D).1*1)
def aGr (D:Int) (W:Cts):Int×Int:=lo (2*(lo (dI D (W.map (·.2))) D).1) (1*(lo (dI D (W.map (·.2))) D).2)
def aBi (T:List (List Int)) (n:Nat) (D:Int) (W:Cts) (a:Int×Int):Bool:=(aFX (nN (W.map (·.1)))).all id && (!((dA n).any (aEz T D W)) && eqB (aGr D W) a)
section
variable {K:ae}
def aHB (K : ae) (C1 C2 C3 : Addr) : Sp := λvs H Q E => ∃(v x y : V) (T : List (List Int)) (n : Nat), vs = [v, x, y] /\ Sh K H (uZ T) v /\ Quad T n /\ 1 <= n /\ n <= 8 /\ Unf C1 C2 C3 T n H E (∃(l w : Addr) (a : Int×Int) (ys : List V), x = .ref l /\ y = .ref w /\ Bs T n /\ Fr K H w a.1 a.2 /\ H l = some (.lst ys) /\
  ((∃x, ys = [x] /\ Odd K H 2 x /\ ∀H', Same H H' -> Q (.bl false) H') \/
   ∃(W : Cts) (D : Int), iM K H ys (kX W) /\ W.length <= 60 /\ (∀e ∈ W, e.1 ∈ cW n /\ ctB e.1 e.2.1 e.2.2 = true) /\ OkD D (W.map (·.2)) /\ 0 < D /\ D.natAbs < 2 ^ 1000 /\ (∀e ∈ W, e.2.1.natAbs < 2 ^ 900) /\ ∀H', Same H H' -> Q (.bl (aBi T n D W a)) H'))
theorem aHp {C1 C2 C3 C2':Addr}(hT2:∀H:Hp,Fr K H C2' 2 1):∀vs H Q E,aHB K C1 C2 C3 vs H Q E->rM K C2' E (aJU K) (aLg K) (aJT K) (aKO K) (aKa K) (aHc K) (sP K) (aJg K C1 C2 C3) { nx:=λ_ H'=>Q .non H',rt:=Q } (bR ["table","some","worth","many"] vs) H:=by
 intro vs H Q E h
 obtain⟨v,x,y,T,n,rfl,hT,qT,n1,n8,q⟩:=h
 refine⟨_,rfl,v,T,n,rfl,hT,qT,n1,n8,?_⟩
 rcases q with q | ⟨sy,q | q | ⟨n3,n6,l,w,a,ys,rfl,rfl,bT,hw,hl,q⟩⟩
 ·exact .inl q
 ·exact .inr ⟨sy, .inl q⟩
 ·exact .inr ⟨sy, .inr (.inl q)⟩
 refine .inr ⟨sy, .inr (.inr ⟨n3,n6,λH1 s1=>?_⟩)⟩
 obtain⟨ta,rs,rfl,ha,hrl,_⟩:=id hT.tab
 have hrl:rs.length=n:=hrl.trans qT.len
 refine⟨_,rfl,ta,rs,rfl, .inr (s1.tup ha),?_⟩
 rw[hrl]
 refine⟨_,rfl,l,rfl, .inl ⟨⟨_, .of (s1 _ _ hl)⟩,λA hA=>?_⟩⟩
 have hv:∀H',SameX A (upd H1 A (.lst [])) H'->Same H1 H':=λH' sx=>cI hA sx
 rcases q with⟨x,rfl,od,q⟩ | ⟨W,D,rW,z,okW,okd,D0,Db,tb,q⟩
 ·refine bP [0] ([false].map V.bl) hA (by decide) (fQ (K:=K) (a:=l) (xs:=[x]) (j:=0) (L:=λ_=>[V.bl false]) (by decide) (by show 0<2;decide) (λH' sx => .of (hv H' sx _ _ (s1 _ _ hl))) λi x' σ2 H2 hx l2 ag2 t0 sx2 _=>?_) λσ2 H2 s2 hA2=>⟨A,[false],rfl, .inl (.of hA2),_,rfl,cT rfl (cT rfl (q H2 (s1.trans s2)))⟩
  have t1:σ2[1]?=some (some (.int (n:Int))):=(ag2 1 (by decide)).trans rfl
  obtain rfl:x=x':=by
   match i,hx with
   |0,hx=>exact az hx
  exact cL λR hR=>⟨_,t1,_,t0,n,x,rfl, .inl ⟨od.same (s1.trans (hv _ sx2)),hR⟩⟩
 have D2:D.natAbs<2 ^ 2000:=aw Db (br (by decide) (by decide))
 have yl:ys.length=W.length:=by rw[rW.1];unfold kX;rw[af]
 refine bP [0] (((aq ys.length).map λ_=>true).map V.bl) hA (by rw[af,af,e7];omega) (Emits.cast (fQ (K:=K) (a:=l) (xs:=ys) (j:=0) (L:=λ_=>[V.bl true]) (by decide) (by show 0<2;decide) (λH' sx => .of (hv H' sx _ _ (s1 _ _ hl))) λi x' σ2 H2 hx l2 ag2 t0 sx2 _=>?_) (by rw[nI,dr];rfl)) λσ2 H2 s2 hA2=>?_
 ·have t1:σ2[1]?=some (some (.int (n:Int))):=(ag2 1 (by decide)).trans rfl
  obtain⟨e,b,c,f,he,rfl,hb,hc,hf⟩:=jG (K:=K) (H:=H2) (cC rW λb e=>Pt.same (s1.trans (hv _ sx2))) hx
  have:=okW e (au he)
  refine cL λR hR=>⟨_,t1,_,t0,n,_,rfl, .inr ⟨b,c,f,e.1,e.2.1,e.2.2,n1,n6,rfl,hb,hc,this.1,hf,?_⟩⟩
  rw[this.2]
  exact hR
 refine⟨A,(aq ys.length).map λ_=>true,rfl, .inl (.of hA2),_,rfl,bB ?_ ?_⟩
 ·show(!(((aq ys.length).map λ_=>true).all id))=false
  rw[show(((aq ys.length).map λ_=>true).all id)=true from bw.mpr λb hb=>by obtain⟨_,_,rfl⟩:=bt.mp hb;rfl]
  rfl
 have s12:=s1.trans s2
 refine⟨_,rfl,l,rfl, .inl ⟨⟨_, .of (s12 _ _ hl)⟩,λB hB=>?_⟩⟩
 refine bJ (K:=K) (a:=l) (xs:=ys) (λi σ' H'=>i<=ys.length/\Same H2 H'/\(∃x0,σ'=[x0])/\∃zs,H' B=some (.lst zs)/\Rows K H' zs (nN ((W.take i).map (·.1)))) ⟨av _,aI hB _,⟨_,rfl⟩,[],aG,Rows.nil⟩ (λi σ3 H3 _ ⟨_,s3,_⟩ => .of (s3 _ _ (s12 _ _ hl))) (λi x' σ3 H3 hx ⟨_,s3,⟨x0,es⟩,zs,hB3,r3⟩=>?_) λσ3 H3 ⟨_,s3,_,zs,hB3,r3⟩=>?_
 ·subst es
  have hi:i<ys.length:=(ai.mp hx).1
  obtain⟨e,b,c,f,he,rfl,hb,hc,hf⟩:=jG (K:=K) (H:=H3) (cC rW λb e=>Pt.same (s12.trans s3)) hx
  refine⟨_,rfl,ixT (j:=0) hb rfl ⟨zs,hB3,bo (show zs.length<=100 by rw[r3.1,eI,af,b9];omega) (by decide),hi,cM hB s3,⟨_,rfl⟩,_,aG,?_⟩⟩
  rw[fI _ he]
  have:nN ((W.take i).map (·.1)++[e.1])=nN ((W.take i).map (·.1))++[e.1.map Int.ofNat]:=by unfold nN;rw[bz];rfl
  rw[this]
  exact Rows.put (Rows.snoc r3 (b:=c) (by rw[<- dM];exact hc)) hB3
 rw[yl,dn] at r3
 have s13:=s12.trans s3
 refine⟨B,zs,nN (W.map (·.1)),rfl,hB3,r3,by rw[eI,af];omega,λH4 s4=>⟨_,rfl,?_⟩⟩
 have s14:=s13.trans s4
 cases c1:(aFX (nN (W.map (·.1)))).all id with
 |false=>
  refine cT rfl ?_
  have:=q H4 s14
  unfold aBi at this
  rw[c1,gy] at this
  exact this
 |true=>
 refine bB rfl ⟨_,rfl,n,rfl,n8,λF6 us H6 s6 _ hF6 r6=>⟨F6,rfl, .inl ⟨⟨_, .of hF6⟩,λA6 hA6=>?_⟩⟩⟩
 have ul:us.length=(dA n).length:=by rw[r6.1,jS]
 have s16:=s14.trans s6
 have hv6:∀H',SameX A6 (upd H6 A6 (.lst [])) H'->Same H6 H':=λH' sx=>cI hA6 sx
 have pij:=(nH n3 n6).2.2.2.1
 refine bP [0,1] (((dA n).map (aEz T D W)).map V.bl) hA6 (by rw[af,af];have:=wO n8;omega) (Emits.cast (lW (K:=K) (a:=F6) (xs:=us) (L:=λi=>[V.bl (aEz T D W ((dA n).getD i (0,0)))]) (λH' sx => .of (hv6 H' sx _ _ hF6)) λi x' σ7 H7 hx l7 ag7 sx7=>?_) (by rw[nI,dr,ul];exact(aFx (dA n) (0,0) (λe=>V.bl (aEz T D W e))).symm)) λσ7 H7 s7 hA7=>?_
 ·obtain⟨e,b,he,rfl,hb⟩:=rC (r6.same (hv6 _ sx7)) hx
  rw[dU he]
  obtain⟨g1,g2⟩:=pij e (au he)
  have l4:σ7.length=4:=l7
  refine⟨(σ7.set 0 (some (dJ e.1))).set 1 (some (dJ e.2)),by rw[df,df];exact l7,(ag7.trans (Agree.set (by decide) _)).trans (Agree.set (by decide) _),λNn hN=>⟨b,_,rfl,hb,rfl,_,_,rfl,_,_,rfl,rfl,hN⟩,cL λR hR=>?_⟩
  have t0:((σ7.set 0 (some (dJ e.1))).set 1 (some (dJ e.2)))[0]?=some (some (dJ e.1)):=by rw[dv (by decide)];exact gK (by omega)
  have t1:((σ7.set 0 (some (dJ e.1))).set 1 (some (dJ e.2)))[1]?=some (some (dJ e.2)):=gK (by rw[df];omega)
  have tk:∀k,2<=k->((σ7.set 0 (some (dJ e.1))).set 1 (some (dJ e.2)))[k]?=σ7[k]?:=λk hk=>by rw[dv (by omega),dv (by omega)]
  have t2:=(tk 2 (by decide)).trans ((ag7 2 (by decide)).trans (show _=some (some (V.ref ta)) from rfl))
  have t3:=(tk 3 (by decide)).trans ((ag7 3 (by decide)).trans (show _=some (some (V.ref l)) from rfl))
  have sA:=s16.trans (hv6 _ sx7)
  refine pM (t:=2) (si:=0) (sj:=1) (i:=e.1) (j:=e.2) t2 t0 t1 (hT.same sA) qT (by omega) g2 ⟨show 2<=bx by decide,λu hu=>?_⟩
  have mu:=aI hu (.tup [V.int (at2 T e.1 e.2), .int 1])
  have sB:=sA.trans mu
  refine⟨_,t3,_,t0,_,t1,l,ys,W,e.1,e.2,D,rfl,sB _ _ hl,cC rW λb e=>Pt.same sB,z,okd,D0,D2,λp H8 s8 hp=>?_⟩
  have ok2:OkD D (tW e.1 e.2 W):=lB okd λx hx=>by
   obtain⟨x',hx',rfl⟩:=bt.mp hx
   exact bt.mpr ⟨x',(gf.mp hx').1,rfl⟩
  have sb:=pG D0 D2 ok2 (by unfold tW;rw[af];have:=dj (λx:List Nat×(Int×Int)=>prt x.1 e.1 e.2) W;omega)
  have wb:=bT e.1 e.2 (by omega) g2
  exact⟨u,p,_,1,_,_,rfl,s8.tup (.of aG), .of hp,up8 (k:=20) (by omega) (by decide),up8 (k:=2) (by decide) (by decide),up8 (gX D0 sb) (by decide),up8 (kI D0 D2) (by decide),hR _ (mu.trans s8)⟩
 have s17:=s16.trans s7
 refine⟨A6,(dA n).map (aEz T D W),rfl, .inl (.of hA7),_,rfl,?_⟩
 rw[yi]
 show if((dA n).any (aEz T D W))=true then _ else _
 cases c3:(dA n).any (aEz T D W) with
 |true=>
  refine cT rfl ?_
  have:=q H7 s17
  unfold aBi at this
  rw[c1,c3,ff] at this
  exact this
 |false=>
 refine bB rfl ⟨_,rfl,l,rfl, .inl ⟨⟨_, .of (s17 _ _ hl)⟩,λB8 hB8=>?_⟩⟩
 refine bJ (K:=K) (a:=l) (xs:=ys) (λi σ' H'=>i<=ys.length/\Same H7 H'/\(∃x0 x1,σ'=[x0,x1])/\∃zs,H' B8=some (.lst zs)/\Rows K H' zs (prI ((W.take i).map (·.2)))) ⟨av _,aI hB8 _,⟨_,_,rfl⟩,[],aG,Rows.nil⟩ (λi σ8 H8 _ ⟨_,s8,_⟩ => .of (s8 _ _ (s17 _ _ hl))) (λi x' σ8 H8 hx ⟨_,s8,⟨x0,x1,es⟩,us2,hB9,r9⟩=>?_) λσ8 H8 ⟨_,s8,_,us2,hB9,r9⟩=>?_
 ·subst es
  have hi:i<ys.length:=(ai.mp hx).1
  obtain⟨e,b,c,f,he,rfl,hb,hc,hf⟩:=jG (K:=K) (H:=H8) (cC rW λb e=>Pt.same (s17.trans s8)) hx
  refine⟨b,_,rfl,hb,rfl,_,_,rfl,_,_,rfl,rfl,?_⟩
  refine⟨_,rfl,us2,hB9,bo (show us2.length<=100 by rw[r9.1];unfold prI;rw[af,af,b9];omega) (by decide),hi,cM hB8 s8,⟨_,_,rfl⟩,_,aG,?_⟩
  rw[fI _ he,gR]
  exact Rows.put (Rows.snoc r9 (b:=f) (r:=[e.2.1,e.2.2]) hf) hB9
 rw[yl,dn] at r9
 refine⟨B8,us2,W.map (·.2),D,rfl,hB9,r9,okd,by rw[af];omega,D0,D2,λp H9 s9 hp=>?_⟩
 have s18:=(s17.trans s8).trans s9
 have sb:(dI D (W.map (·.2))).natAbs<2 ^ (7+(900+1000)):=rH D0 Db (λx hx=>by
  obtain⟨e,he,rfl⟩:=bt.mp hx
  exact⟨(okd e.2 hx).1,tb e he⟩) (by rw[af];omega)
 have t1:(lo (dI D (W.map (·.2))) D).1.natAbs<2 ^ 2000:=aw (gX D0 sb) (br (by decide) (by decide))
 have two:∀k:Nat,2<=k->(2:Int).natAbs<2 ^ k/\(1:Int).natAbs<2 ^ k:=λk hk=>⟨aw (show 2<2 ^ 2 by decide) (br (by decide) hk),aw (show 1<2 ^ 2 by decide) (br (by decide) hk)⟩
 refine⟨C2',p,2,1,_,_,rfl,hT2 H9, .of hp,(two 2000 (by decide)).1,(two 2000 (by decide)).2,t1,kI D0 D2,by decide,hU D0,λp2 H10 s10 hp2=>⟨_,rfl,?_⟩⟩
 have s19:=s18.trans s10
 refine⟨.tup ([(aGr D W).1,(aGr D W).2].map Dt.int), .tup ([a.1,a.2].map Dt.int),eJ _,⟨p2,_,rfl, .of hp2,ShL.ints [(aGr D W).1,(aGr D W).2]⟩,⟨w,_,rfl,s19.tup hw,ShL.ints [a.1,a.2]⟩,?_⟩
 rw[oE]
 have:=q H10 s19
 unfold aBi at this
 rw[c1,c3,ff] at this
 exact this
end
def vJ (T:List (List Int)) (n:Nat) (h:Nat->Nat):Cts:=((aq (mN n)).filter (qW T n h)).map λi=>((stA n (h i)).1,lo ((stA n (h i)).2*RT T n h i (NN n)) (dT T n h))
theorem aES {T:List (List Int)}{n:Nat}{h:Nat->Nat}:aDZ T n h=kX (vJ T n h):=by
 unfold aDZ kX vJ
 rw[dr]
 rfl
theorem aDI {T:List (List Int)}{n:Nat}{h:Nat->Nat}{W:List (List Int×Int×Int)}(p:W.Perm (aDZ T n h)):∃W0:Cts,W0.Perm (vJ T n h)/\W=kX W0:=by
 rw[aES] at p
 exact vY p (vJ T n h) rfl
theorem aCG {T:List (List Int)}{n:Nat}{h:Nat->Nat}(n3:3<=n)(n6:n<=6)(b:Bs T n)(ok:OkT T n h):(vJ T n h).length<=15/\∀e∈vJ T n h,0<e.2.2/\e.2.2 ∣ dT T n h/\e.2.1.natAbs<2 ^ 900:=by
 refine⟨?_,λe he=>?_⟩
 ·unfold vJ
  rw[af]
  have:=oU (i:=mN n) (p:=qW T n h)
  have:=(nH n3 n6).2.1
  omega
 ·obtain⟨i,_,rfl⟩:=bt.mp he
  refine⟨hU ok.d0,oJ ok.d0,?_⟩
  have sg:=aEF (j:=h i) n3 n6
  have:=sI (show(stA n (h i)).2.natAbs<2 ^ 1 by omega) (aCn n3 n6 b h i (NN n))
  exact aw (gX ok.d0 this) (br (by decide) (by decide))
theorem rN {i j:Int}(h:0<j):(lo i j).1*gd i j=i/\(lo i j).2*gd i j=j:=by
 obtain⟨e1,e2,_,_⟩:=kH (i:=i) h
 refine⟨?_,?_⟩
 ·rw[de];exact e1.symm
 ·rw[de];exact e2.symm
theorem zN {x z D:Int}(hz:0<z)(hD:0<D)(hd:z ∣ D):(lo x z).1*(D / (lo x z).2)=x*(D / z):=by
 obtain⟨w,rfl⟩:=hd
 obtain⟨e1,e2⟩:=rN (i:=x) hz
 have p:=hU (i:=x) hz
 rw[jf _ (show z≠0 by omega)]
 have:z*w / (lo x z).2=gd x z*w:=by
  have:z*w=(lo x z).2*(gd x z*w):=by rw[<- cv,e2]
  rw[this]
  exact jf _ (by omega)
 rw[this,<- cv,e1]
theorem pV {x D:Int}(hD:0<D):(lo x D).1*(D / (lo x D).2)=x:=by
 rw[zN hD hD (Int.dvd_refl D),Int.ediv_self (by omega),kl]
theorem sX {D:Int}{P P':Pr}:dI D (P++P')=dI D P+dI D P':=by
 unfold dI
 rw[bz,List.sum_append]
theorem aCH {l l':List Int}(h:l.Perm l'):l.sum=l'.sum:=by
 induction h with
 |nil=>rfl
 |cons x _ ih=>rw[ke,ke,ih]
 |swap x y l=>rw[ke,ke,ke,ke];omega
 |trans _ _ a b=>exact a.trans b
theorem aCC {D:Int}{P P':Pr}(h:P.Perm P'):dI D P=dI D P':=by
 unfold dI
 exact aCH (h.map λe:Int×Int=>e.1*(D / e.2))
theorem iW {D:Int}(hD:0<D){q:Nat->Bool}{v:Nat->Int}{g:Nat->Int×Int}(hg:∀p,q p=true->(g p).1*(D / (g p).2)=v p):∀m:Nat,dI D (((aq m).filter q).map g)=Sh.sumN m λp=>if q p=true then v p else 0
 |0=>rfl
 |m+1=>by
  rw[iL,bz,sX,iW hD hg m]
  show _=Sh.sumN m _+if q m=true then v m else 0
  congr 1
  by_cases c:q m=true
  ·rw[if_pos c,if_pos c]
   show dI D [g m]=_
   unfold dI
   rw[c4,uw,ke,List.sum_nil,yo,hg m c]
  ·rw[if_neg c,if_neg c]
   rfl
section
variable {T:List (List Int)}{n:Nat}{h:Nat->Nat}
def kO (T:List (List Int)) (n:Nat) (h:Nat->Nat):Shs:=((aq (mN n)).filter (xQ T n h)).map λp=>(prA n p,lo (RT T n h (mN n) (kN n+p)) (dT T n h))
theorem aId:aKg T n h=jL (kO T n h):=by
 unfold aKg jL kO
 rw[dr]
 rfl
abbrev lam (T:List (List Int)) (n:Nat) (h:Nat->Nat) (p:Nat):Int:=RT T n h (mN n) (kN n+p)
def Top (T:List (List Int)) (n:Nat) (h:Nat->Nat):Prop:=∀j,j<NN n->0<=RT T n h (mN n) j
theorem Top.lam (t:Top T n h){p:Nat}(hp:p<mN n):0<=lam T n h p:=t _ (by show kN n+p<kN n+mN n;omega)
def aAd (T:List (List Int)) (n:Nat) (h:Nat->Nat) (s:List Nat):Int:=Sh.sumN (mN n) λp=>if prt s (prA n p).1 (prA n p).2=true then lam T n h p else 0
theorem uH (t:Top T n h)(d0:0<dT T n h)(s:List Nat):dI (dT T n h) (jV s (kO T n h))=aAd T n h s:=by
 have e:jV s (kO T n h)=((aq (mN n)).filter λp=>prt s (prA n p).1 (prA n p).2 && xQ T n h p).map λp=>lo (lam T n h p) (dT T n h):=by
  unfold jV kO
  rw[List.filter_map,dr,List.filter_filter]
  rfl
 rw[e,iW d0 (v:=lam T n h) (λp _=>pV d0)]
 unfold aAd
 refine Sh.sumN_congr λp hp=>?_
 have:=t.lam hp
 by_cases c:xQ T n h p=true
 ·rw[c,zx]
 ·have z:lam T n h p=0:=by
   unfold xQ at c
   have:¬ 0<lam T n h p:=of_decide_eq_false (dq _ |>.mp c)
   omega
  rw[dq _ |>.mp c,Bool.and_false,if_neg (by decide),z]
  split <;> rfl
def sJ (n:Nat) (s:List Nat):List Bool:=(aq (mN n)).map λp=>prt s (prA n p).1 (prA n p).2
theorem vK {s s':List Nat}(e:sJ n s=sJ n s'):aAd T n h s=aAd T n h s':=by
 unfold aAd
 refine Sh.sumN_congr λp hp=>?_
 have:(sJ n s)[p]?=(sJ n s')[p]?:=by rw[e]
 unfold sJ at this
 rw[bh,bh,uk hp] at this
 have:prt s (prA n p).1 (prA n p).2=prt s' (prA n p).1 (prA n p).2:=az this
 rw[this]
def aLy (n:Nat):Bool:=(cW n).all λs=>((aq (kN n)).any λj=>decide ((stA n j).2=1) && decide (sJ n (stA n j).1=sJ n s)) && (!decide (s.length=1) || (aq (kN n)).any λj=>decide ((stA n j).2 = -1) && decide (sJ n (stA n j).1=sJ n s))
theorem aKj:∀n,3<=n->n<=6->aLy n=true:=n36 (by decide+kernel) (by decide+kernel) (by decide+kernel) (by decide+kernel)
theorem aAN {j:Nat}(hj:j<kN n):RT T n h (mN n) j=(stA n j).2*(aAd T n h (stA n j).1 - 2*dT T n h):=by
 have e:RT T n h (mN n) j=(Sh.sumN (mN n) λp=>coT n j p*RT T n h (mN n) (kN n+p))+obT n j*dT T n h:=Sh.last_step hj
 rw[e]
 have e2:(Sh.sumN (mN n) λp=>coT n j p*RT T n h (mN n) (kN n+p))=(stA n j).2*aAd T n h (stA n j).1:=by
  unfold aAd
  rw[<- Sh.sumN_mul]
  refine Sh.sumN_congr λp hp=>?_
  unfold coT
  split
  ·rfl
  ·rw[pw,fv]
 rw[e2,Int.mul_sub]
 unfold obT
 rw[show(stA n j).2*(2*dT T n h)=2*(stA n j).2*dT T n h by rw[<- cv,de (stA n j).2 2],show -2*(stA n j).2*dT T n h = -(2*(stA n j).2*dT T n h) by rw[cv,cv,jv]]
 omega
theorem aBZ (n3:3<=n)(n6:n<=6)(t:Top T n h){s:List Nat}(hs:s∈cW n):2*dT T n h<=aAd T n h s/\(s.length=1->aAd T n h s=2*dT T n h):=by
 have b:=bw.mp (aKj n n3 n6) s hs
 rw[b7,qg] at b
 obtain⟨b1,b2⟩:=b
 obtain⟨j,hj,hb⟩:=o6.mp b1
 rw[b7] at hb
 have hj:=da.mp hj
 have ge:2*dT T n h<=aAd T n h s:=by
  have z:=t j (by show j<kN n+mN n;omega)
  rw[aAN hj,of_decide_eq_true hb.1,uj,vK (of_decide_eq_true hb.2)] at z
  omega
 refine⟨ge,λl1=>?_⟩
 rcases b2 with b2 | b2
 ·rw[decide_eq_true l1] at b2;cases b2
 ·obtain⟨j',hj',hb'⟩:=o6.mp b2
  rw[b7] at hb'
  have hj':=da.mp hj'
  have z:=t j' (by show j'<kN n+mN n;omega)
  rw[aAN hj',of_decide_eq_true hb'.1,vK (of_decide_eq_true hb'.2),jv,uj] at z
  omega
theorem aFk {D:Int}(hD:0<D):lo (2*D) D=(2,1):=by
 rw[aCR (c:=2) (d:=1) hD (by decide) (by rw[kl])]
 decide+kernel
theorem aIB {S D:Int}{c:Int}(hD:0<D):c*(lo S D).2<=(lo S D).1↔c*D<=S:=by
 obtain⟨e1,e2⟩:=rN (i:=S) hD
 have g0:=iN (i:=S) hD
 constructor
 ·intro z
  have:=gs z (k4 g0)
  rw[cv,e1,e2] at this
  exact this
 ·intro z
  rw[<- e2,<- cv] at z
  refine uq (a:=gd S D) ?_ g0
  rw[e1]
  exact z
theorem aHj {S D:Int}{c:Int}(hD:0<D):(lo S D).1<=c*(lo S D).2↔S<=c*D:=by
 obtain⟨e1,e2⟩:=rN (i:=S) hD
 have g0:=iN (i:=S) hD
 constructor
 ·intro z
  have:=gs z (k4 g0)
  rw[cv,e1,e2] at this
  exact this
 ·intro z
  rw[<- e2,<- cv] at z
  refine uq (a:=gd S D) ?_ g0
  rw[e1]
  exact z
theorem aIn {i j:Int}(h:0<j):gd (lo i j).1 (lo i j).2=1:=by
 have:=(kH (i:=i) h).2.2.2
 unfold gd
 show(((lo i j).1.gcd (lo i j).2:Nat):Int)=1
 unfold lo
 rw[this]
 rfl
theorem aCZ {i j:Int}(h:0<j):frB (lo i j).1 (lo i j).2=true:=by
 unfold frB
 rw[decide_eq_true (show 1<=(lo i j).2 from hU h),decide_eq_true (aIn h)]
 rfl
theorem aFs {i j:Int}(h:0<j):(0<i->0<(lo i j).1)/\(i<0->(lo i j).1<0):=by
 obtain⟨e1,_⟩:=rN (i:=i) h
 have g0:=iN (i:=i) h
 refine⟨λz=>?_,λz=>?_⟩
 ·apply cz
  intro c
  have:=Int.mul_nonpos_of_nonpos_of_nonneg (show(lo i j).1<=0 by omega) (k4 g0)
  omega
 ·apply cz
  intro c
  have:=iq (show 0<=(lo i j).1 by omega) (k4 g0)
  omega
theorem aDv {e:(Nat×Nat)×(Int×Int)}(he:e∈kO T n h):∃p,p<mN n/\0<lam T n h p/\e=(prA n p,lo (lam T n h p) (dT T n h)):=by
 obtain⟨p,hp,rfl⟩:=bt.mp he
 obtain⟨h1,h2⟩:=gf.mp hp
 exact⟨p,da.mp h1,of_decide_eq_true h2,rfl⟩
theorem aFE (n3:3<=n)(n6:n<=6)(d0:0<dT T n h):∀e∈kO T n h,shB n e.1.1 e.1.2 e.2.1 e.2.2=true/\e.1.1<e.1.2/\e.1.2<n/\0<e.2.1:=λe he=>by
 obtain⟨p,hp,lp,rfl⟩:=aDv he
 obtain⟨g1,g2⟩:=aIR n3 n6 hp
 have t0:=(aFs (i:=lam T n h p) d0).1 lp
 refine⟨?_,g1,g2,t0⟩
 unfold shB
 show(decide ((0:Int)<=((prA n p).1:Int)) && (decide (((prA n p).1:Int)<((prA n p).2:Int)) && (decide (((prA n p).2:Int)<(n:Int)) && (frB (lo (lam T n h p) (dT T n h)).1 (lo (lam T n h p) (dT T n h)).2 && decide (0<(lo (lam T n h p) (dT T n h)).1)))))=true
 rw[decide_eq_true (show(0:Int)<=((prA n p).1:Int) by omega),decide_eq_true (show((prA n p).1:Int)<((prA n p).2:Int) by omega),decide_eq_true (show((prA n p).2:Int)<(n:Int) by omega),aCZ d0,decide_eq_true t0]
 rfl
theorem aIg (n3:3<=n)(n6:n<=6)(b:Bs T n)(d0:0<dT T n h):∀e∈kO T n h,0<e.2.2/\e.2.2 ∣ dT T n h/\e.2.1.natAbs<2 ^ 400:=λe he=>by
 obtain⟨p,hp,lp,rfl⟩:=aDv he
 exact⟨hU d0,oJ d0,gX d0 (aCn n3 n6 b h _ _)⟩
theorem aDw (n3:3<=n)(n6:n<=6):(kO T n h).length<=15:=by
 unfold kO
 rw[af]
 have:=oU (i:=mN n) (p:=xQ T n h)
 have:=(nH n3 n6).2.1
 omega
theorem aET (n3:3<=n)(n6:n<=6)(t:Top T n h)(d0:0<dT T n h):dI (dT T n h) (wrS T (kO T n h))=RT T n h (mN n) (NN n):=by
 have e:wrS T (kO T n h)=((aq (mN n)).filter (xQ T n h)).map λp=>lo ((lo (lam T n h p) (dT T n h)).1*at2 T (prA n p).1 (prA n p).2) ((lo (lam T n h p) (dT T n h)).2*1):=by
  unfold wrS kO
  rw[dr]
  rfl
 rw[e,iW d0 (v:=λp=>lam T n h p*at2 T (prA n p).1 (prA n p).2) λp _=>by
  rw[kl,zN (hU d0) d0 (oJ d0),cv,de (at2 T _ _),<- cv,pV d0]]
 have e2:RT T n h (mN n) (NN n)=Sh.sumN (mN n) λp=>wyT T n p*RT T n h (mN n) (kN n+p):=Sh.last_worth
 rw[e2]
 refine Sh.sumN_congr λp hp=>?_
 unfold wyT
 rw[if_pos hp]
 have:=t.lam hp
 by_cases c:xQ T n h p=true
 ·rw[if_pos c,de]
 ·have z:lam T n h p=0:=by
   unfold xQ at c
   have:¬ 0<lam T n h p:=of_decide_eq_false (dq _ |>.mp c)
   omega
  rw[if_neg c]
  show 0=_*lam T n h p
  rw[z,fv]
def prB (n:Nat):Bool:=(aq (mN n)).all λq=>(aq q).all λp=>HT.lexLt [((prA n p).1:Int),((prA n p).2:Int)] [((prA n q).1:Int),((prA n q).2:Int)]
theorem aLt:∀n,3<=n->n<=6->prB n=true:=n36 (by decide+kernel) (by decide+kernel) (by decide+kernel) (by decide+kernel)
theorem aCa (n3:3<=n)(n6:n<=6):(pr2 (kO T n h)).Pairwise λa b=>HT.lexLt a b=true:=by
 unfold pr2 kO
 rw[dr]
 refine nr.mpr ((qk.filter (xQ T n h)).imp_of_mem λ{a b} ha hb lt=>?_)
 have hb:=da.mp (gf.mp hb).1
 exact bw.mp (bw.mp (aLt n n3 n6) b (da.mpr hb)) a (da.mpr lt)
theorem aCj {R:List (List Int)}(h:R.Pairwise λa b=>HT.lexLt a b=true):(aFX R).all id=true:=by
 refine bw.mpr λb hb=>?_
 obtain⟨i,hi,rfl⟩:=bt.mp hb
 have hi:=da.mp hi
 have:=oq.mp h i (i+1) (by omega) (by omega) (by omega)
 rw[ak,ak,ah (show i<R.length by omega),ah (show i+1<R.length by omega)]
 exact this
theorem aIJ:∀n,3<=n->n<=6->((aq n).all λi=>decide ([i]∈cW n))=true:=n36 (by decide+kernel) (by decide+kernel) (by decide+kernel) (by decide+kernel)
theorem aAB (a:Int×Int):eqB a a=true:=decide_eq_true rfl
theorem aBn (n3:3<=n)(n6:n<=6)(t:Top T n h)(ok:OkT T n h):jK T n (dT T n h) (kO T n h) (lo (RT T n h (mN n) (NN n)) (dT T n h))=true:=by
 have d0:0<dT T n h:=ok.d0
 unfold jK
 rw[aCj (aCa n3 n6),ff]
 have h1:(aq n).all (aFv (dT T n h) (kO T n h))=true:=bw.mpr λi hi=>by
  have hi:=da.mp hi
  have hs:[i]∈cW n:=by
   have:=aIJ n n3 n6
   exact of_decide_eq_true (bw.mp this i (da.mpr hi))
  unfold aFv
  rw[uH t d0,(aBZ n3 n6 t hs).2 rfl,aFk d0]
  rfl
 have h2:(cW n).any (uN (dT T n h) (kO T n h))=false:=by
  rw[<- dq]
  intro z
  obtain⟨s,hs,hb⟩:=o6.mp z
  unfold uN at hb
  have hb:=of_decide_eq_true hb
  rw[uH t d0] at hb
  have:=(aIB (c:=2) d0).mpr (aBZ n3 n6 t hs).1
  omega
 rw[h1,h2,aET n3 n6 t d0,aAB]
 rfl
theorem aAF (ok:OkT T n h){q:Nat->Bool}{W:Cts}(pW:W.Perm (vJ T n h))(f:List Nat×(Int×Int)->Bool)(hf:∀i,f ((stA n (h i)).1,lo ((stA n (h i)).2*RT T n h i (NN n)) (dT T n h))=q i):dI (dT T n h) ((W.filter f).map (·.2))=Sh.sumN (mN n) λi=>if h i<kN n/\q i=true then(stA n (h i)).2*RT T n h i (NN n) else 0:=by
 have d0:0<dT T n h:=ok.d0
 rw[aCC ((pW.filter f).map (·.2))]
 have e:((vJ T n h).filter f).map (·.2)=((aq (mN n)).filter λi=>q i && qW T n h i).map λi=>lo ((stA n (h i)).2*RT T n h i (NN n)) (dT T n h):=by
  unfold vJ
  rw[List.filter_map,dr,List.filter_filter]
  have:(λa=>(f∘λi=>((stA n (h i)).1,lo ((stA n (h i)).2*RT T n h i (NN n)) (dT T n h))) a && qW T n h a)=λi=>q i && qW T n h i:=by
   funext i
   show(f ((stA n (h i)).1,_) && qW T n h i)=_
   rw[hf i]
  rw[this]
  rfl
 rw[e,iW d0 (v:=λi=>(stA n (h i)).2*RT T n h i (NN n)) λp _=>pV d0]
 refine Sh.sumN_congr λi hi=>?_
 unfold qW
 by_cases c1:h i<kN n
 ·by_cases c2:q i=true
  ·have a:h i<kN n/\q i=true:=⟨c1,c2⟩
   rw[if_pos a,c2,decide_eq_true c1]
   by_cases c3:RT T n h i (NN n)=0
   ·rw[decide_eq_true c3,c3,fv]
    rfl
   ·rw[decide_eq_false c3]
    rfl
  ·have a:¬ (h i<kN n/\q i=true):=λz=>c2 z.2
   rw[if_neg a,dq _ |>.mp c2,gy]
   rfl
 ·have a:¬ (h i<kN n/\q i=true):=λz=>c1 z.1
  rw[if_neg a,decide_eq_false c1,gy,Bool.and_false]
  rfl
theorem aFG (n3:3<=n)(n6:n<=6)(ok:OkT T n h){W:Cts}(pW:W.Perm (vJ T n h)){p:Nat}(hp:p<mN n):dI (dT T n h) (tW (prA n p).1 (prA n p).2 W)<=at2 T (prA n p).1 (prA n p).2*dT T n h:=by
 unfold tW
 rw[aAF ok pW (q:=λi=>prt (stA n (h i)).1 (prA n p).1 (prA n p).2) _ λi=>rfl]
 have e:dT T n h*wyT T n p=Sh.sumN (mN n) λi=>RT T n h i (kN n+mN n)*AT T n (h i) p:=Sh.held_way ok hp
 unfold wyT at e
 rw[if_pos hp] at e
 rw[de,e]
 refine Sh.sumN_le λi hi=>?_
 have b0:0<=RT T n h i (NN n):=ok.b0 i hi
 by_cases c1:h i<kN n
 ·show _<=_*Sh.A0 _ _ _ _ _ (h i) p
  rw[Sh.A0_step c1 hp]
  unfold coT
  by_cases c2:prt (stA n (h i)).1 (prA n p).1 (prA n p).2=true
  ·have a:h i<kN n/\prt (stA n (h i)).1 (prA n p).1 (prA n p).2=true:=⟨c1,c2⟩
   rw[if_pos a,if_pos c2,de]
   exact qy _
  ·have a:¬ (h i<kN n/\prt (stA n (h i)).1 (prA n p).1 (prA n p).2=true):=λz=>c2 z.2
   rw[if_neg a,if_neg c2,fv]
   exact qy _
 ·have a:¬ (h i<kN n/\prt (stA n (h i)).1 (prA n p).1 (prA n p).2=true):=λz=>c1 z.1
  rw[if_neg a]
  have hN:=ok.hN i hi
  obtain⟨r,er⟩:∃r,h i=kN n+r:=⟨h i - kN n,by omega⟩
  show 0<=_*Sh.A0 _ _ _ _ _ (h i) p
  rw[er,Sh.A0_slack (by have:h i<kN n+mN n:=hN;omega)]
  refine iq b0 ?_
  show 0<=if p=r then(1:Int) else 0
  split <;> decide
theorem aBM (ok:OkT T n h){W:Cts}(pW:W.Perm (vJ T n h)):2*dI (dT T n h) (W.map (·.2))=RT T n h (mN n) (NN n):=by
 have e0:W.map (·.2)=(W.filter λ_=>true).map (·.2):=by rw[zq.mpr λ_ _=>rfl]
 rw[e0,aAF ok pW (q:=λ_=>true) _ λi=>rfl]
 have e:RT T n h (mN n) (kN n+mN n)+(Sh.sumN (mN n) λi=>RT T n h i (kN n+mN n)*AT T n (h i) (mN n))=0:=Sh.held_worth ok
 have e2:(Sh.sumN (mN n) λi=>RT T n h i (kN n+mN n)*AT T n (h i) (mN n)) = -2*Sh.sumN (mN n) λi=>if h i<kN n/\true=true then(stA n (h i)).2*RT T n h i (NN n) else 0:=by
  rw[<- Sh.sumN_mul]
  refine Sh.sumN_congr λi hi=>?_
  by_cases c1:h i<kN n
  ·show _*Sh.A0 _ _ _ _ _ (h i) (mN n)=_
   have a:h i<kN n/\true=true:=⟨c1,rfl⟩
   rw[if_pos a,Sh.A0_ob c1]
   unfold obT
   rw[de,cv]
  ·have a:¬ (h i<kN n/\true=true):=λz=>c1 z.1
   rw[if_neg a,fv]
   have hN:=ok.hN i hi
   obtain⟨r,er⟩:∃r,h i=kN n+r:=⟨h i - kN n,by omega⟩
   show _*Sh.A0 _ _ _ _ _ (h i) (mN n)=_
   rw[er,Sh.A0_slack (by have:h i<kN n+mN n:=hN;omega),show Sh.unit r (mN n)=0 from if_neg (by have:h i<kN n+mN n:=hN;omega),fv]
 rw[e2] at e
 show _=RT T n h (mN n) (kN n+mN n)
 omega
theorem aGs (ok:OkT T n h){W:Cts}(pW:W.Perm (vJ T n h)):aGr (dT T n h) W=lo (RT T n h (mN n) (NN n)) (dT T n h):=by
 have d0:0<dT T n h:=ok.d0
 obtain⟨e1,e2⟩:=rN (i:=dI (dT T n h) (W.map (·.2))) d0
 unfold aGr
 rw[uj]
 refine aCR (hU d0) d0 ?_
 rw[<- aBM ok pW]
 have:∀a b g S D:Int,a*g=S->b*g=D->2*a*D=2*S*b:=λa b g S D h1 h2=>by
  rw[<- h1,<- h2]
  simp only[cv,fk,de]
 exact this _ _ _ _ _ e1 e2
def aLC (n:Nat):Bool:=(aq (kN n)).all λj=>decide ((stA n j).1∈cW n) && (decide ((stA n j).2=1) || (decide ((stA n j).2 = -1) && decide ((stA n j).1.length=1)))
theorem aKk:∀n,3<=n->n<=6->aLC n=true:=n36 (by decide+kernel) (by decide+kernel) (by decide+kernel) (by decide+kernel)
theorem aCL (n3:3<=n)(n6:n<=6)(ok:OkT T n h):∀e∈vJ T n h,e.1∈cW n/\ctB e.1 e.2.1 e.2.2=true/\e.2.1≠0/\(1<e.1.length->0<e.2.1):=λe he=>by
 have d0:0<dT T n h:=ok.d0
 obtain⟨i,hi,rfl⟩:=bt.mp he
 obtain⟨h1,h2⟩:=gf.mp hi
 have hi:=da.mp h1
 unfold qW at h2
 rw[b7] at h2
 have ck:=of_decide_eq_true h2.1
 have c0:RT T n h i (NN n)≠0:=of_decide_eq_false (by simpa using h2.2)
 have b0:0<=RT T n h i (NN n):=ok.b0 i hi
 have nb:=bw.mp (aKk n n3 n6) (h i) (da.mpr ck)
 rw[b7,qg,b7] at nb
 obtain⟨nb1,nb2⟩:=nb
 refine⟨of_decide_eq_true nb1,?_⟩
 unfold ctB
 show(frB (lo ((stA n (h i)).2*RT T n h i (NN n)) (dT T n h)).1 (lo ((stA n (h i)).2*RT T n h i (NN n)) (dT T n h)).2 && _)=true/\_
 rw[aCZ d0,ff]
 have sg:=aFs (i:=(stA n (h i)).2*RT T n h i (NN n)) d0
 rcases nb2 with nb2 | ⟨nb2,nb3⟩
 ·have:0<(lo ((stA n (h i)).2*RT T n h i (NN n)) (dT T n h)).1:=sg.1 (by rw[of_decide_eq_true nb2,uj];omega)
  exact⟨by rw[decide_eq_true this];rfl,by show(lo _ _).1≠0;omega,λ_=>this⟩
 ·have:(lo ((stA n (h i)).2*RT T n h i (NN n)) (dT T n h)).1<0:=sg.2 (by rw[of_decide_eq_true nb2,jv,uj];omega)
  have l1:=of_decide_eq_true nb3
  exact⟨by rw[decide_eq_true this,decide_eq_true l1];simp,by show(lo _ _).1≠0;omega,λz=>by have z:1<(stA n (h i)).1.length:=z;omega⟩
theorem zO:∀{a b:List Int},lexL a b=HT.lexLt a b
 |[],[]=>rfl
 |[],_ :: _=>rfl
 |_ :: _,[]=>rfl
 |x :: xs,y :: ys=>by
  rw[lexL,HT.lexLt_cons,zO (a:=xs) (b:=ys)]
theorem zB:∀{a b:List Int},a≠b->HT.lexLt b a=false->HT.lexLt a b=true
 |[],[],h,_=>absurd rfl h
 |[],_ :: _,_,_=>rfl
 |_ :: _,[],_,h=>by rw[HT.lexLt_nil_cons] at h;cases h
 |x :: xs,y :: ys,h,g=>by
  rw[HT.lexLt_cons] at g ⊢
  by_cases c:x=y
  ·subst c
   rw[if_pos rfl] at g ⊢
   exact zB (λz=>h (by rw[z])) g
  ·rw[if_neg (iw c)] at g
   rw[if_neg c]
   have:=of_decide_eq_false g
   exact decide_eq_true (by omega)
theorem aCO (n3:3<=n)(n6:n<=6)(ok:OkT T n h){W:Cts}(pW:W.Perm (vJ T n h))(sW:((kX W).map (·.1)).Pairwise (λa b=>lexL b a=false)):(nN (W.map (·.1))).Pairwise λa b=>HT.lexLt a b=true:=by
 have e:(kX W).map (·.1)=nN (W.map (·.1)):=by
  unfold kX nN
  rw[dr,dr]
  rfl
 rw[e] at sW
 have nd:(nN (W.map (·.1))).Nodup:=by
  rw[<- e]
  have:=aFz n3 n6 ok
  rw[aES] at this
  exact(((pW.map λe:List Nat×(Int×Int)=>(e.1.map Int.ofNat,e.2)).map (·.1)).nodup_iff).mpr this
 refine(yp.mpr ⟨sW,nd⟩).imp λ⟨h1,h2⟩=>zB h2 (by rw[<- zO];exact h1)
theorem aDY (n3:3<=n)(n6:n<=6)(ok:OkT T n h){W:Cts}(pW:W.Perm (vJ T n h))(sW:((kX W).map (·.1)).Pairwise (λa b=>lexL b a=false)):aBi T n (dT T n h) W (lo (RT T n h (mN n) (NN n)) (dT T n h))=true:=by
 have d0:0<dT T n h:=ok.d0
 unfold aBi
 rw[aCj (aCO n3 n6 ok pW sW),aGs ok pW,aAB,ff]
 have:(dA n).any (aEz T (dT T n h) W)=false:=by
  rw[<- dq]
  intro z
  obtain⟨e,he,hb⟩:=o6.mp z
  obtain⟨p,hp⟩:=fh.mp he
  have hl:p<mN n:=(ai.mp hp).1
  have ep:prA n p=e:=dU hp
  have:=aFG n3 n6 ok pW hl
  rw[ep] at this
  unfold aEz at hb
  have hb:=of_decide_eq_true hb
  have:=(aHj (c:=at2 T e.1 e.2) d0).mpr this
  omega
 rw[this]
 rfl
end
theorem tJ:∀{a b:List Int},HT.lexLt a b=true->HT.lexLt b a=false
 |[],[],h=>by cases h
 |[],_ :: _,_=>rfl
 |_ :: _,[],h=>by rw[HT.lexLt_cons_nil] at h;cases h
 |x :: xs,y :: ys,h=>by
  rw[HT.lexLt_cons] at h ⊢
  by_cases c:x=y
  ·subst c
   rw[if_pos rfl] at h ⊢
   exact tJ h
  ·rw[if_neg c] at h
   rw[if_neg (iw c)]
   have:=of_decide_eq_true h
   exact decide_eq_false (by omega)
theorem aGw (a:List Int):HT.lexLt a a=false:=by
 cases h:HT.lexLt a a with
 |false=>rfl
 |true=>rw[tJ h] at h;cases h
theorem aAn {R R':List (List Int)}(h:R.Pairwise λa b=>HT.lexLt a b=true)(h1:R'.Pairwise λa b=>lexL b a=false)(nd:R'.Nodup)(m:∀r,r∈R'↔r∈R):R'=R:=by
 have h2:R'.Pairwise λa b=>HT.lexLt a b=true:=(yp.mpr ⟨h1,nd⟩).imp λ⟨z1,z2⟩=>zB z2 (by rw[<- zO];exact z1)
 have nd2:R.Nodup:=h.imp λ{a b} z e=>by subst e;rw[aGw] at z;cases z
 have pm:R'.Perm R:=(n4 nd nd2).mpr m
 refine pk (le:=λa b=>HT.lexLt a b=true) (λa b _ _ x y=>?_) h2 h pm
 rw[tJ x] at y
 cases y
theorem pT:∀(n:Nat),∀s∈cU n,s.Pairwise (· < ·)
 |0,s,h=>by
  obtain rfl:s=[]:=by simpa[cU] using h
  exact .nil
 |n+1,s,h=>by
  rcases du.mp (show s∈cU n++(cU n).map (· ++ [n]) from h) with h | h
  ·exact pT n s h
  ·obtain⟨t,ht,rfl⟩:=bt.mp h
   refine sd.mpr ⟨pT n t ht,List.pairwise_singleton _ _,λa ha b hb=>?_⟩
   obtain rfl:b=n:=dw.mp hb
   exact(eN b t ht).2 a ha
theorem wI {n:Nat}{s:List Nat}(h:s∈cW n):s.Pairwise (· < ·):=pT n s (y4 (se h))
def uI (n:Nat) (s:List Nat):Bool:=decide (0<s.length) && decide (s.length<n)
theorem aHP:∀n,3<=n->n<=6->decide ((cU n).filter (uI n)=cW n)=true:=n36 (by decide+kernel) (by decide+kernel) (by decide+kernel) (by decide+kernel)
theorem aDS {n:Nat}(n3:3<=n)(n6:n<=6){s:List Nat}(h:s∈cW n):0<s.length/\s.length<n:=by
 rw[<- of_decide_eq_true (aHP n n3 n6)] at h
 have:=(gf.mp h).2
 unfold uI at this
 rw[b7] at this
 exact⟨of_decide_eq_true this.1,of_decide_eq_true this.2⟩
theorem aKI:∀n,3<=n->n<=6->((cW n).all λs=>decide (s.map Int.ofNat∈K28))=true:=n36 (by decide+kernel) (by decide+kernel) (by decide+kernel) (by decide+kernel)
theorem aJZ:∀n,3<=n->n<=6->((aq n).all λj=>(aq j).all λi=>decide ([(i:Int),(j:Int)]∈K28))=true:=n36 (by decide+kernel) (by decide+kernel) (by decide+kernel) (by decide+kernel)
section
variable {K:ae}
theorem aKL:∀vs H Q E,sP K vs H Q E->mJ K (wQ K) { nx:=λ_ H'=>Q .non H',rt:=Q } (bR ["some","top","bottom","one"] vs) H:=by
 intro vs H Q E h
 obtain⟨a,xs,P,D,rfl,ha,hr,okp,h8,D0,Db,q⟩:=h
 have hl:xs.length=P.length:=by rw[hr.1];unfold prI;rw[af]
 refine⟨show 2<=bx by decide,λu hu=>⟨u,_,rfl, .of aG,rfl,_,_,rfl,_,_,rfl,rfl,?_⟩⟩
 have mu:=aI hu (.tup [V.int 0, .int 1])
 generalize upd H u (.tup [V.int 0, .int 1])=G at *
 refine⟨_,rfl,a,rfl, .inl ⟨⟨_, .of (mu _ _ ha)⟩,?_⟩⟩
 refine bJ (K:=K) (a:=a) (xs:=xs) (λi σ' H'=>i<=xs.length/\Same H H'/\∃(x3:Option V),σ'=[some (.ref a),some (.int (lo (dI D (P.take i)) D).1),some (.int (lo (dI D (P.take i)) D).2),x3]) ⟨av _,mu,none,?_⟩ (λi σ1 H1 _ ⟨_,s1,_⟩ => .of (s1 _ _ ha)) (λi x σ1 H1 hx ⟨_,s1,x3,es⟩=>?_) λσ1 H1 ⟨_,s1,x3,es⟩=>?_
 ·have:lo (dI D (P.take 0)) D=(0,1):=by
   show lo 0 D=(0,1)
   rw[aCR (c:=0) (d:=1) D0 (by decide) (by rw[pw,pw])]
   decide+kernel
  rw[this]
  rfl
 ·subst es
  have hi:i<xs.length:=(ai.mp hx).1
  obtain⟨e,b,he,rfl,hb⟩:=aDc (hr.same s1) hx
  obtain⟨b0,bd,tb⟩:=okp e (au he)
  have okt:OkD D (P.take i):=lB okp λx hx=>se hx
  have sb:=pG D0 Db okt (by rw[b9];omega)
  have p0:=hU (i:=dI D (P.take i)) D0
  have b2:=kI (i:=dI D (P.take i)) D0 Db
  have e2:=dW b0 D0 bd Db
  refine⟨_,rfl,_,rfl,ixT (j:=1) hb rfl ⟨.inr ⟨up8 (gX D0 sb) (by decide),up8 e2 (by decide)⟩,_,rfl,ixT (j:=0) hb rfl ⟨_,rfl, .inr ⟨up8 tb (by decide),up8 b2 (by decide)⟩,_,rfl,_,rfl,ixT (j:=1) hb rfl ⟨.inr ⟨up8 b2 (by decide),up8 e2 (by decide)⟩,_,_,rfl,o9 p0 b0,up8 (sI b2 e2) (by decide),λp H2 s2 hp=>?_⟩⟩⟩⟩
  refine⟨p,_,rfl, .of hp,rfl,_,_,rfl,_,_,rfl,rfl,hi,s1.trans s2,some (.ref b),?_⟩
  have el:K36.lo ((lo (dI D (P.take i)) D).1*e.2+e.1*(lo (dI D (P.take i)) D).2) ((lo (dI D (P.take i)) D).2*e.2)=K36.lo (dI D (P.take (i+1))) D:=by
   refine aCR (o9 p0 b0) D0 ?_
   obtain⟨g1,g2⟩:=rN (i:=dI D (P.take i)) D0
   have es:dI D (P.take (i+1))=dI D (P.take i)+e.1*(D / e.2):=by
    rw[fz,he,sX]
    congr 1
    show dI D [e]=_
    unfold dI
    rw[c4,uw,ke,List.sum_nil,yo]
   rw[es]
   obtain⟨w,rfl⟩:=bd
   rw[jf _ (show e.2≠0 by omega)]
   have key:∀t b g S x y w:Int,t*g=S->b*g=x*w->(t*x+y*b)*(x*w)=(S+y*w)*(b*x):=λt b g S x y w h1 h2=>by
    rw[<- h1,ui,ui]
    have z1:t*x*(x*w)=t*g*(b*x):=by rw[<- h2];simp only[cv,fk,de]
    have z2:y*b*(x*w)=y*w*(b*x):=by simp only[cv,fk,de]
    rw[z1,z2]
   exact key _ _ _ _ _ _ _ g1 g2
  exact congrArg (λz:Int×Int=>[some (V.ref a),some (V.int z.1),some (V.int z.2),some (V.ref b)]) el
 ·subst es
  rw[hl,dn]
  refine⟨_,rfl,_,rfl,show 2<=bx by decide,λp hp=>q p _ (s1.trans (aI hp _)) aG⟩
def aJi (K:ae):Sp:=λvs H Q _=>∃(f:Addr) (t b:Int),vs=[.ref f]/\Fr K H f t b/\frB t b=true/\b.natAbs<2 ^ 8000/\∀H',Same H H'->Q (.bl true) H'
theorem aKC:∀vs H Q E,aJi K vs H Q E->fP K (wQ K) (L.spW K) { nx:=λ_ H'=>Q .non H',rt:=Q } (bR ["thing"] vs) H:=by
 intro vs H Q E h
 obtain⟨f,t,b,rfl,hf,fb,bb,q⟩:=h
 unfold frB at fb
 rw[b7] at fb
 have b1:1<=b:=of_decide_eq_true fb.1
 have g1:gd t b=1:=of_decide_eq_true fb.2
 refine⟨_,rfl, .ref f,_,"tuple",rfl,by decide,gH hf,_,rfl,bB rfl ⟨_,rfl,f,_,rfl, .inr hf, .int 2, .int 2,av _,rfl,rfl,_,rfl,bB rfl ?_⟩⟩
 refine⟨_,rfl,ixT (j:=0) hf rfl ⟨.int t, .int t,rfl,rfl,λH1 s1=>⟨_,rfl,bB rfl ?_⟩⟩⟩
 refine⟨_,rfl,ixT (j:=1) (s1.tup hf) rfl ⟨.int b, .int b,rfl,rfl,λH2 s2=>⟨_,rfl,bB rfl ?_⟩⟩⟩
 have s12:=s1.trans s2
 have hf2:Fr K H2 f t b:=s12.tup hf
 refine⟨_,rfl,ixT (j:=1) hf2 rfl ⟨_,_,rfl,rfl,_,rfl,bB (decide_eq_false (by omega)) ?_⟩⟩
 refine⟨_,rfl,ixT (j:=0) hf2 rfl ⟨_,rfl,ixT (j:=1) hf2 rfl ⟨t,b,rfl,by omega,bb,λp H3 s3 hp=>?_⟩⟩⟩
 refine⟨_,rfl, .tup ([t,b].map Dt.int), .tup ([t,b].map Dt.int),eJ _,⟨p,_,rfl, .of (by rw[hp,g1,Aw,Aw];rfl),ShL.ints [t,b]⟩,⟨f,_,rfl,s3.tup hf2,ShL.ints [t,b]⟩,?_⟩
 rw[eQ]
 exact q H3 (s12.trans s3)
def aIz (K:ae):Sp:=λvs H Q _=>∃(n:Nat) (b:Addr) (i j:Nat),vs=[.int (n:Int), .ref b]/\SqT K H b [dJ i,dJ j]/\i<j/\j<n/\∀H',Same H H'->Q (.bl true) H'
theorem aGo:∀vs H Q E,aIz K vs H Q E->jD K (L.spW K) { nx:=λ_ H'=>Q .non H',rt:=Q } (bR ["many","thing"] vs) H:=by
 intro vs H Q E h
 obtain⟨n,b,i,j,rfl,hb,hij,hjn,q⟩:=h
 refine⟨_,rfl, .ref b, .tup ([(i:Int),(j:Int)].map Dt.int),"tuple",rfl,by decide,⟨b,_,rfl,hb,ShL.ints [(i:Int),(j:Int)]⟩,_,rfl,bB rfl ⟨_,rfl,b,_,rfl, .inr hb, .int 2, .int 2,av _,rfl,rfl,_,rfl,bB rfl ?_⟩⟩
 refine⟨_,rfl,ixT (j:=0) hb rfl ⟨dJ i, .int (i:Int),rfl,rfl,λH1 s1=>⟨_,rfl,bB rfl ?_⟩⟩⟩
 refine⟨_,rfl,ixT (j:=1) (s1.tup hb) rfl ⟨dJ j, .int (j:Int),rfl,rfl,λH2 s2=>⟨_,rfl,bB rfl ?_⟩⟩⟩
 have hb2:=(s1.trans s2).tup hb
 refine⟨_,rfl,ixT (j:=0) hb2 rfl ⟨_,_,rfl,rfl,_,rfl,?_⟩⟩
 rw[decide_eq_true (show(0:Int)<=(i:Int) by omega),if_pos rfl]
 refine⟨_,rfl,ixT (j:=1) hb2 rfl ⟨_,_,rfl,rfl,_,rfl,?_⟩⟩
 rw[decide_eq_true (show(i:Int)<(j:Int) by omega),if_pos rfl]
 refine⟨_,rfl,_,_,rfl,rfl,?_⟩
 rw[decide_eq_true (show(j:Int)<(n:Int) by omega)]
 exact q _ (s1.trans s2)
def aHu (K:ae):Sp:=λvs H Q _=>∃n:Nat,vs=[.int (n:Int)]/\3<=n/\n<=6/\∀F ys H',Same H H'->H F=none->H' F=some (.lst ys)->Rows K H' ys (nN (cW n))->Q (.ref F) H'
theorem aHQ:∀vs H Q E,aHu K vs H Q E->mS K { nx:=λ_ H'=>Q .non H',rt:=Q } (bR ["many","found","place"] vs) H:=by
 intro vs H Q E h
 obtain⟨n,rfl,n3,n6,q⟩:=h
 refine⟨show 0<=bx by decide,λp hp=>⟨show 1<=bx by decide,λl hl=>?_⟩⟩
 have mp:=aI hp (.tup [])
 have ml:=aI hl (.lst [V.ref p])
 have m0:=mp.trans ml
 have hl0:(upd (upd H p (.tup [])) l (.lst [V.ref p])) l=some (.lst [V.ref p]):=aG
 have hp0:SqT K (upd (upd H p (.tup [])) l (.lst [V.ref p])) p []:=ml.tup (.of aG)
 have hlH:H l=none:=mp.free hl
 generalize upd (upd H p (.tup [])) l (.lst [V.ref p])=G at *
 refine⟨_,rfl,(n:Int),rfl,by omega,by omega,?_⟩
 rw[bu]
 refine cZ (lo:=0) (n:=n) (λi σ' H'=>i<=n/\Same H H'/\∃F x2 ys,σ'=[some (.int (n:Int)),some (.ref F),x2]/\H F=none/\H' F=some (.lst ys)/\Rows K H' ys (nN (cU i))) ⟨av _,m0,l,none,[.ref p],rfl,hlH,hl0,rfl,λi row e=>?_⟩ (λi σ' H1 hi ⟨_,m1,F,x2,ys,es,hF0,hF,r1⟩=>?_) λσ' H1 ⟨_,m1,F,x2,ys,es,hF0,hF,r1⟩=>?_
 ·match i,e with
  |0,e=>
   obtain rfl:([]:List Int)=row:=az e
   exact⟨p,rfl,hp0⟩
 ·subst es
  rw[kh]
  have yl:ys.length=(cU i).length:=by rw[r1.1,eI]
  have y64:ys.length<=32:=by
   rw[yl,gF]
   exact c9 (br (by decide) (show i<=5 by omega)) (by decide)
  refine⟨_,rfl,_,rfl,F,rfl, .inl ⟨⟨_, .of hF⟩,λA hA=>?_⟩⟩
  refine bJ (K:=K) (a:=F) (xs:=ys) (λj σ2 H2=>j<=ys.length/\Same H1 H2/\(∃x0,σ2=[x0,some (.int (i:Int))])/\∃zs,H2 A=some (.lst zs)/\Rows K H2 zs (nN (((cU i).take j).map (· ++ [i])))) ⟨av _,aI hA _,⟨_,rfl⟩,[],aG,Rows.nil⟩ (λj σ2 H2 _ ⟨_,s2,_⟩ => .of (s2 _ _ hF)) (λj x σ2 H2 hx ⟨_,s2,⟨x0,e2⟩,zs,hA2,r2⟩=>?_) λσ2 H2 ⟨_,s2,_,zs,hA2,r2⟩=>?_
  ·subst e2
   obtain⟨s,b,hs,rfl,hb⟩:=jP (r1.same s2) hx
   have hj:j<ys.length:=(ai.mp hx).1
   have sl:s.length<=i:=(eN i s (au hs)).1
   refine⟨_,rfl,_,rfl,show 1<=bx by decide,λt ht=>?_⟩
   have mt:=aI ht (.tup [V.int (i:Int)])
   refine .inr ⟨b,t,_,_,rfl,rfl,mt.tup hb, .of aG,?_,λc H3 _ hc s3=>?_⟩
   ·rw[af]
    exact c9 (show s.length+1<=10 by omega) (by decide)
   ·have s4:=mt.trans s3
    have hA3:=s4 _ _ hA2
    refine⟨zs,hA3,bo (show zs.length<=100 by rw[r2.1,eI,af,b9];omega) (by decide),hj,cM hA (s2.trans s4),⟨_,rfl⟩,_,aG,?_⟩
    rw[fz,hs,bz]
    have:nN (((cU i).take j).map (· ++ [i])++((some s).toList.map (· ++ [i])))=nN (((cU i).take j).map (· ++ [i]))++[(s++[i]).map Int.ofNat]:=by
     unfold nN
     rw[bz]
     rfl
    rw[this]
    refine Rows.put (Rows.snoc (r2.same s4) (b:=c) ?_) hA3
    rw[dr,bz]
    exact hc
  ·have hA4:=s2 _ _ hF
   refine .inl ⟨F,A,ys,zs,rfl,rfl,hA4,hA2,?_,λF4 hF4=>?_⟩
   ·rw[r2.1,eI,af,b9]
    exact c9 (show _<=100 by omega) (by decide)
   ·have m4:=aI hF4 (.lst (ys++zs))
    refine⟨hi,(m1.trans s2).trans m4,F4,_,ys++zs,rfl,(m1.trans s2).free hF4,aG,?_⟩
    rw[yl,dn] at r2
    have:nN (cU (i+1))=nN (cU i)++nN ((cU i).map (· ++ [i])):=by unfold nN;rw[<- bz];rfl
    rw[this]
    exact(nY (r1.same s2) r2).same m4
 ·subst es
  have yl:ys.length=(cU n).length:=by rw[r1.1,eI]
  have y64:ys.length<=64:=by
   rw[yl,gF]
   exact c9 (br (by decide) n6) (by decide)
  refine⟨_,rfl,F,rfl, .inl ⟨⟨_, .of hF⟩,λA hA=>?_⟩⟩
  refine bJ (K:=K) (a:=F) (xs:=ys) (λi σ' H'=>i<=ys.length/\Same H1 H'/\(∃x0,σ'=[x0,some (.int (n:Int))])/\∃zs,H' A=some (.lst zs)/\Rows K H' zs (nN (((cU n).take i).filter (uI n)))) ⟨av _,aI hA _,⟨_,rfl⟩,[],aG,Rows.nil⟩ (λi σ2 H2 _ ⟨_,s2,_⟩ => .of (s2 _ _ hF)) (λi x σ2 H2 hx ⟨_,s2,⟨x1,e2⟩,zs,hA2,r2⟩=>?_) λσ2 H2 ⟨_,s2,_,zs,hA2,r2⟩=>?_
  ·subst e2
   have hi:i<ys.length:=(ai.mp hx).1
   obtain⟨s,b,hs,rfl,hb⟩:=jP (r1.same s2) hx
   have e1:((cU n).take (i+1)).filter (uI n)=((cU n).take i).filter (uI n)++if uI n s=true then[s] else[]:=by
    rw[fz,hs,jk]
    congr 1
    show[s].filter (uI n)=_
    by_cases c:uI n s=true
    ·rw[if_pos c,kc c];rfl
    ·rw[if_neg c,kd c];rfl
   have yes:uI n s=true->(cP (aD 0) A) { nx:=λσ' H'=>i+1<=ys.length/\Same H1 H'/\(∃x0,σ'=[x0,some (.int (n:Int))])/\∃zs,H' A=some (.lst zs)/\Rows K H' zs (nN (((cU n).take (i+1)).filter (uI n))),rt:=λ_ _=>False,ct:=λσ' H'=>i+1<=ys.length/\Same H1 H'/\(∃x0,σ'=[x0,some (.int (n:Int))])/\∃zs,H' A=some (.lst zs)/\Rows K H' zs (nN (((cU n).take (i+1)).filter (uI n))) } [some (.ref b),some (.int (n:Int))] H2:=λcp=>by
    rw[if_pos cp] at e1
    refine⟨_,rfl,zs,hA2,bo (show zs.length<=100 by rw[r2.1,eI];have:=dj (uI n) ((cU n).take i);rw[b9] at this;omega) (by decide),hi,cM hA s2,⟨_,rfl⟩,_,aG,?_⟩
    rw[e1]
    have:nN (((cU n).take i).filter (uI n)++[s])=nN (((cU n).take i).filter (uI n))++[s.map Int.ofNat]:=by unfold nN;rw[bz];rfl
    rw[this]
    exact Rows.put (Rows.snoc r2 (by rw[<- dM];exact hb)) hA2
   have no:uI n s=false->(i+1<=ys.length/\Same H1 H2/\(∃x0,([some (.ref b),some (.int (n:Int))]:St)=[x0,some (.int (n:Int))])/\∃zs,H2 A=some (.lst zs)/\Rows K H2 zs (nN (((cU n).take (i+1)).filter (uI n)))):=λcp=>by
    rw[if_neg (by rw[cp];decide),gu] at e1
    refine⟨hi,s2,⟨_,rfl⟩,zs,hA2,?_⟩
    rw[e1]
    exact r2
   refine⟨_,rfl,b,_,rfl, .inr hb,_,_,rfl,rfl,_,rfl,?_⟩
   rw[af]
   by_cases c1:0<s.length
   ·refine cT (decide_eq_true (by omega)) ⟨_,rfl,_,_,rfl,rfl,_,rfl,?_⟩
    by_cases c2:s.length<n
    ·exact cT (decide_eq_true (by omega)) (yes (by unfold uI;rw[decide_eq_true c1,decide_eq_true c2];rfl))
    ·exact bB (decide_eq_false (by omega)) (no (by unfold uI;rw[decide_eq_false c2];simp))
   ·exact bB (decide_eq_false (by omega)) ⟨_,rfl,bB rfl (no (by unfold uI;rw[decide_eq_false c1];rfl))⟩
  ·rw[yl,dn,of_decide_eq_true (aHP n n3 n6)] at r2
   exact q A zs H2 (m1.trans s2) (m1.free hA) hA2 r2
theorem aIe:∀vs H Q E,aJt K vs H Q E->hZ K (aHg K) (sP K) { nx:=λ_ H'=>Q .non H',rt:=Q } (bR ["some","side","found","i","j","part"] vs) H:=by
 intro vs H Q E h
 obtain⟨l,c,ys,L,s,D,rfl,hl,rL,z,hc,okd,D0,Db,q⟩:=h
 have yl:ys.length=L.length:=by rw[rL.1];unfold jL;rw[af]
 refine⟨show 0<=bx by decide,λA hA=>?_⟩
 have mA:=aI hA (.lst [])
 have hA0:(upd H A (.lst [])) A=some (.lst []):=aG
 generalize upd H A (.lst [])=G at *
 refine⟨_,rfl,l,rfl, .inl ⟨⟨_, .of (mA _ _ hl)⟩,?_⟩⟩
 refine bJ (K:=K) (a:=l) (xs:=ys) (λi σ' H'=>i<=ys.length/\Same H H'/\(∃x3 x4 x5,σ'=[some (.ref l),some (.ref c),some (.ref A),x3,x4,x5])/\∃zs,H' A=some (.lst zs)/\Rows K H' zs (prI (jV s (L.take i)))) ⟨av _,mA,⟨_,_,_,rfl⟩,[],hA0,Rows.nil⟩ (λi σ1 H1 _ ⟨_,s1,_⟩ => .of (s1 _ _ hl)) (λi x σ1 H1 hx ⟨_,s1,⟨x3,x4,x5,es⟩,zs,hA1,r1⟩=>?_) λσ1 H1 ⟨_,s1,⟨x3,x4,x5,es⟩,zs,hA1,r1⟩=>?_
 ·subst es
  have hi:i<ys.length:=(ai.mp hx).1
  obtain⟨e,b,f,he,rfl,hb,hf⟩:=gS (K:=K) (H:=H1) (cC rL λb e=>Tri.same s1) hx
  refine⟨b,_,rfl,hb,rfl,_,_,rfl,_,_,rfl,_,_,rfl,rfl,?_⟩
  refine⟨_,rfl,_,rfl,_,rfl,c,s,e.1.1,e.1.2,rfl,s1.tup hc,_,rfl,?_⟩
  have e1:jV s (L.take (i+1))=jV s (L.take i)++if prt s e.1.1 e.1.2=true then[e.2] else[]:=by
   unfold jV
   rw[fz,he,jk,bz]
   congr 1
   exact aJn (λe:(Nat×Nat)×(Int×Int)=>prt s e.1.1 e.1.2) (·.2) e
  refine nQ (λcp=>?_) λcp=>?_
  ·rw[if_pos cp] at e1
   refine⟨_,rfl, .inl ⟨rfl,_, .of hA1⟩,_,rfl,A,zs,_,rfl,rfl,hA1,bo (show zs.length<=100 by rw[r1.1];unfold prI jV;rw[af,af];have:=dj (λe:(Nat×Nat)×(Int×Int)=>prt s e.1.1 e.1.2) (L.take i);rw[b9] at this;omega) (by decide),hi,cM hA s1,⟨_,_,_,rfl⟩,_,aG,?_⟩
   rw[e1,gR]
   exact Rows.put (Rows.snoc r1 (b:=f) (r:=[e.2.1,e.2.2]) hf) hA1
  ·rw[if_neg cp,gu] at e1
   refine⟨hi,s1,⟨_,_,_,rfl⟩,zs,hA1,?_⟩
   rw[e1]
   exact r1
 ·subst es
  rw[yl,dn] at r1
  refine⟨_,rfl,A,zs,jV s L,D,rfl,hA1,r1,lB okd λe he=>?_,?_,D0,Db,λp H2 s2 hp=>q p H2 (s1.trans s2) hp⟩
  ·obtain⟨x,hx,rfl⟩:=bt.mp he
   exact bt.mpr ⟨x,(gf.mp hx).1,rfl⟩
  ·unfold jV
   rw[af]
   have:=dj (λe:(Nat×Nat)×(Int×Int)=>prt s e.1.1 e.1.2) L
   omega
def aLr (K:ae):Sp:=λvs H Q _=>∃(n:Nat) (p:Addr) (s:List Nat),vs=[.int (n:Int), .ref p]/\SqT K H p (s.map dJ)/\3<=n/\n<=6/\s∈cW n/\∀H',Same H H'->Q (.bl true) H'
theorem aKJ:∀vs H Q E,aLr K vs H Q E->iI K (L.spW K) { nx:=λ_ H'=>Q .non H',rt:=Q } (bR ["many","some","place"] vs) H:=by
 intro vs H Q E h
 obtain⟨n,p,s,rfl,hp,n3,n6,hs,q⟩:=h
 obtain⟨l0,ln⟩:=aDS n3 n6 hs
 have small:=(pK hs).2
 refine⟨_,rfl, .ref p, .tup ((s.map Int.ofNat).map Dt.int),"tuple",rfl,by decide,⟨p,_,rfl,by rw[<- dM];exact hp,ShL.ints _⟩,_,rfl,bB rfl ?_⟩
 refine⟨_,rfl,p,_,rfl, .inr hp,_,_,rfl,rfl,_,rfl,?_⟩
 rw[af,decide_eq_true (show(0:Int)<(s.length:Int) by omega),if_pos rfl]
 refine⟨_,rfl,_,_,rfl,rfl,_,rfl,bB (by rw[decide_eq_true (show(s.length:Int)<(n:Int) by omega)];rfl) ?_⟩
 refine⟨_,rfl,p,rfl, .inr ⟨⟨_,hp⟩,?_⟩⟩
 refine aBT (K:=K) (a:=p) (xs:=s.map dJ) (λi σ' H'=>Same H H'/\∃x2,σ'=[some (.int (n:Int)),some (.ref p),x2]) ⟨Same.refl _,_,rfl⟩ (λi σ1 H1 _ ⟨s1,_⟩=>s1.tup hp) (λi x σ1 H1 hx ⟨s1,x2,es⟩=>?_) λσ1 H1 ⟨s1,x2,es⟩=>?_
 ·subst es
  rw[bh] at hx
  cases hv:s[i]? with
  |none=>rw[hv] at hx;cases hx
  |some k=>
  rw[hv] at hx
  obtain rfl:dJ k=x:=az hx
  have hk:=small k (au hv)
  refine⟨_,rfl,dJ k, .int (k:Int),rfl,rfl,λH2 s2=>⟨_,rfl,bB rfl ?_⟩⟩
  refine⟨_,rfl,_,_,rfl,rfl,_,rfl,?_⟩
  rw[decide_eq_true (show(0:Int)<=(k:Int) by omega),if_pos rfl]
  exact⟨_,rfl,_,_,rfl,rfl,_,rfl,bB (by rw[decide_eq_true (show(k:Int)<(n:Int) by omega)];rfl) ⟨s1.trans s2,_,rfl⟩⟩
 ·subst es
  have hp1:=s1.tup hp
  refine⟨_,rfl, .inl ⟨p,_,rfl, .inr hp1,λl hl=>?_⟩⟩
  have ml:=aI hl (.lst (s.map dJ))
  refine⟨_,rfl,p,s,rfl,ml.tup hp1,λk hk=>by have:=small k hk;omega,λks kp km H2 s2 l2 hl2=>?_⟩
  have ek:ks=s:=by
   have nd1:ks.Nodup:=kp.imp λ{a b} z e=>by omega
   have nd2:s.Nodup:=(wI hs).imp λ{a b} z e=>by omega
   exact pk (le:=(· < ·)) (λa b _ _ x y=>by omega) kp (wI hs) ((n4 nd1 nd2).mpr km)
  subst ek
  have m2:=aI hl2 (.lst (sK ks))
  have hl3:=m2 _ _ (s2 _ _ (show(upd H1 l (.lst (ks.map dJ))) l=_ from aG))
  refine⟨.lst ((ks.map Int.ofNat).map Dt.int), .lst ((ks.map Int.ofNat).map Dt.int),?_,⟨l,_,rfl, .of (by rw[hl3,dM]),ShL.ints _⟩,⟨l2,_,rfl, .of (by rw[aG];unfold sK;rw[dr];rfl),ShL.ints _⟩,?_⟩
  ·exact(eJ (ks.map Int.ofNat):dep (.tup ((ks.map Int.ofNat).map Dt.int))<=100)
  ·rw[eQ]
   exact q _ (((s1.trans ml).trans s2).trans m2)
end
def whS (T:List (List Int)) (L:Shs):Pr:=L.map λe=>(e.2.1*at2 T e.1.1 e.1.2,e.2.2)
theorem aIm {T:List (List Int)}{n:Nat}{h:Nat->Nat}(n3:3<=n)(n6:n<=6)(t:Top T n h)(d0:0<dT T n h):dI (dT T n h) (whS T (kO T n h))=RT T n h (mN n) (NN n):=by
 have e:whS T (kO T n h)=((aq (mN n)).filter (xQ T n h)).map λp=>((lo (lam T n h p) (dT T n h)).1*at2 T (prA n p).1 (prA n p).2,(lo (lam T n h p) (dT T n h)).2):=by
  unfold whS kO
  rw[dr]
  rfl
 have e2:wrS T (kO T n h)=((aq (mN n)).filter (xQ T n h)).map λp=>lo ((lo (lam T n h p) (dT T n h)).1*at2 T (prA n p).1 (prA n p).2) ((lo (lam T n h p) (dT T n h)).2*1):=by
  unfold wrS kO
  rw[dr]
  rfl
 rw[<- aET n3 n6 t d0,e,e2,iW d0 (v:=λp=>lam T n h p*at2 T (prA n p).1 (prA n p).2) (λp _=>by
  show(lo (lam T n h p) (dT T n h)).1*at2 T _ _*(dT T n h / (lo (lam T n h p) (dT T n h)).2)=_
  rw[cv,de (at2 T _ _),<- cv,pV d0]),iW d0 (v:=λp=>lam T n h p*at2 T (prA n p).1 (prA n p).2) λp _=>by
  rw[kl,zN (hU d0) d0 (oJ d0),cv,de (at2 T _ _),<- cv,pV d0]]
section
variable {K:ae}
theorem zH {t b:Int}:dep (.tup [.int t, .int b])<=100:=eJ [t,b]
theorem aCc {α:Type}{H:Hp}(f:α->Dt):∀{L:List α}{xs:List V},xs.length=L.length->(∀(i:Nat) (e:α),L[i]?=some e->∃x,xs[i]?=some x/\Sh K H (f e) x)->ShL K H (L.map f) xs
 |[],xs,h,_=>mh.mp h
 |e :: L,[],h,_=>by simp at h
 |e :: L,x :: xs,h,g=>by
  obtain⟨y,h1,h2⟩:=g 0 e rfl
  obtain rfl:x=y:=az h1
  exact⟨x,xs,rfl,h2,aCc f (by simpa using h) λi e' he=>by
   obtain⟨y,h1,h2⟩:=g (i+1) e' (by simpa using he)
   exact⟨y,by simpa using h1,h2⟩⟩
def aJo (e:(Nat×Nat)×(Int×Int)):Dt := .tup [.int e.1.1, .int e.1.2, .tup [.int e.2.1, .int e.2.2]]
theorem aDd {H:Hp}{e:(Nat×Nat)×(Int×Int)}{b f:Addr}(hb:SqT K H b [dJ e.1.1,dJ e.1.2, .ref f])(hf:SqT K H f [.int e.2.1, .int e.2.2]):Sh K H (aJo e) (.ref b):=⟨b,_,rfl,hb,_,_,rfl,rfl,_,_,rfl,rfl,_,_,rfl,gH hf,rfl⟩
theorem aBY {H:Hp}{l:Addr}{ys:List V}{L:Shs}(hl:H l=some (.lst ys))(rL:zD K H ys (jL L)):Sh K H (.lst (L.map aJo)) (.ref l):=by
 have yl:ys.length=L.length:=by rw[rL.1];unfold jL;rw[af]
 refine⟨l,ys,rfl, .of hl,aCc aJo yl λi e he=>?_⟩
 have hi:i<ys.length:=by rw[yl];exact(ai.mp he).1
 obtain⟨e',b,f,he',eb,hb,hf⟩:=gS rL (ah hi)
 rw[he] at he'
 obtain rfl:=az he'
 exact⟨.ref b,by rw[ah hi,eb],aDd hb hf⟩
def aKN (K:ae):Sp:=λvs H Q _=>∃(v:V) (l w:Addr) (ys:List V) (T:List (List Int)) (n:Nat) (h:Nat->Nat),vs=[v, .ref l, .ref w]/\Sh K H (uZ T) v/\Quad T n/\3<=n/\n<=6/\Bs T n/\OkT T n h/\Top T n h/\H l=some (.lst ys)/\zD K H ys (jL (kO T n h))/\Fr K H w (lo (RT T n h (mN n) (NN n)) (dT T n h)).1 (lo (RT T n h (mN n) (NN n)) (dT T n h)).2/\∀H',Same H H'->Q (.bl true) H'
theorem aKG:∀vs H Q E,aKN K vs H Q E->fY K (aJi K) (aIz K) (aJt K) (sP K) (aHu K) { nx:=λ_ H'=>Q .non H',rt:=Q } (bR ["table","some","worth","many","thing","pairs","side","over","whole","i","j","part"] vs) H:=by
 intro vs H Q E h
 obtain⟨v,l,w,ys,T,n,h,rfl,hT,qT,n3,n6,bT,ok,top,hl,rL,hw,q⟩:=h
 have d0:0<dT T n h:=ok.d0
 have db:(dT T n h).natAbs<2 ^ 2000:=aw (oY n3 n6 bT h) (br (by decide) (by decide))
 have fo:=aFE n3 n6 d0
 have fD:=aIg n3 n6 bT d0
 have f15:=aDw (T:=T) (h:=h) n3 n6
 have okd:OkD (dT T n h) ((kO T n h).map (·.2)):=λx hx=>by
  obtain⟨e,he,rfl⟩:=bt.mp hx
  obtain⟨a1,a2,a3⟩:=fD e he
  exact⟨a1,a2,aw a3 (br (by decide) (by decide))⟩
 generalize hL:kO T n h=L at *
 have yl:ys.length=L.length:=by rw[rL.1];unfold jL;rw[af]
 obtain⟨ta,rs,rfl,ha,hrl,_⟩:=id hT.tab
 have hrl:rs.length=n:=hrl.trans qT.len
 refine⟨_,rfl,ta,rs,rfl, .inr ha,?_⟩
 rw[hrl]
 refine⟨_,rfl, .ref l,_,"list",rfl,by decide,aBY hl rL,_,rfl,bB rfl ?_⟩
 refine⟨_,rfl,l,rfl, .inl ⟨⟨_, .of hl⟩,?_⟩⟩
 refine bJ (K:=K) (a:=l) (xs:=ys) (λi σ' H'=>Same H H'/\∃x4,σ'=[some (.ref ta),some (.ref l),some (.ref w),some (.int (n:Int)),x4,none,none,none,none,none,none,none]) ⟨Same.refl _,_,rfl⟩ (λi σ1 H1 _ ⟨s1,_⟩ => .of (s1 _ _ hl)) (λi x σ1 H1 hx ⟨s1,x4,es⟩=>?_) λσ1 H1 ⟨s1,x4,es⟩=>?_
 ·subst es
  obtain⟨e,b,f,he,rfl,hb,hf⟩:=gS (K:=K) (H:=H1) (cC rL λb e=>Tri.same s1) hx
  obtain⟨fs,g1,g2,g3⟩:=fo e (au he)
  obtain⟨d1,d2,d3⟩:=fD e (au he)
  have fr:frB e.2.1 e.2.2=true:=by
   unfold shB at fs
   simp only[b7] at fs
   exact fs.2.2.2.1
  refine⟨_,rfl, .ref b,_,"tuple",rfl,by decide,aDd hb hf,_,rfl,bB rfl ⟨_,rfl,b,_,rfl, .inr hb, .int 3, .int 3,av _,rfl,rfl,_,rfl,bB rfl ?_⟩⟩
  refine⟨_,rfl,_,rfl,2,rfl, .inr ⟨b,_,rfl,hb,λp H2 s2 hp=>⟨n,p,e.1.1,e.1.2,rfl,hp,g1,g2,λH3 s3=>⟨_,rfl,bB rfl ?_⟩⟩⟩⟩
  have s23:=s2.trans s3
  refine⟨_,rfl,ixT (j:=2) (s23.tup hb) rfl ⟨f,e.2.1,e.2.2,rfl,s23.tup hf,fr,up8 (dW d1 d0 d2 db) (by decide),λH4 s4=>⟨_,rfl,bB rfl ?_⟩⟩⟩
  have s24:=s23.trans s4
  exact⟨_,rfl,ixT (j:=2) (s24.tup hb) rfl (ixT (j:=0) (s24.tup hf) rfl ⟨_,_,rfl,rfl,_,rfl,bB (decide_eq_false (by omega)) ⟨s1.trans s24,_,rfl⟩⟩)⟩
 ·subst es
  refine⟨_,rfl,l,rfl, .inl ⟨⟨_, .of (s1 _ _ hl)⟩,λB hB=>?_⟩⟩
  refine bJ (K:=K) (a:=l) (xs:=ys) (λi σ' H'=>i<=ys.length/\Same H1 H'/\(∃x0,σ'=[x0])/\∃zs,H' B=some (.lst zs)/\Rows K H' zs (pr2 (L.take i))) ⟨av _,aI hB _,⟨_,rfl⟩,[],aG,Rows.nil⟩ (λi σ3 H3 _ ⟨_,s3,_⟩ => .of (s3 _ _ (s1 _ _ hl))) (λi x' σ3 H3 hx ⟨_,s3,⟨x0,es⟩,zs,hB3,r3⟩=>?_) λσ3 H3 ⟨_,s3,_,zs,hB3,r3⟩=>?_
  ·subst es
   have hi:i<ys.length:=(ai.mp hx).1
   obtain⟨e,b,f,he,rfl,hb,hf⟩:=gS (K:=K) (H:=H3) (cC rL λb e=>Tri.same (s1.trans s3)) hx
   refine⟨_,rfl,2,rfl, .inr ⟨b,_,rfl,hb,λp H4 s4 hp=>?_⟩⟩
   have hB4:=s4 _ _ hB3
   refine⟨zs,hB4,bo (show zs.length<=100 by rw[r3.1];unfold pr2;rw[af,b9];omega) (by decide),hi,cM hB (s3.trans s4),⟨_,rfl⟩,_,aG,?_⟩
   unfold pr2 at r3 ⊢
   rw[fI _ he]
   exact Rows.put (Rows.snoc (r3.same s4) (b:=p) (r:=[(e.1.1:Int),(e.1.2:Int)]) hp) hB4
  rw[yl,dn] at r3
  have s13:=s1.trans s3
  have ris:(pr2 L).Pairwise λa b=>HT.lexLt a b=true:=by rw[<- hL];exact aCa n3 n6
  refine⟨_,rfl,_,rfl,B,zs,pr2 L,rfl, .of hB3,r3,λr hr=>?_,by unfold pr2;rw[af];omega,λzs' R' srt nd mem H4 s4 r4 l4 hl4=>?_⟩
  ·obtain⟨e,he,rfl⟩:=bt.mp hr
   obtain⟨_,g1,g2,_⟩:=fo e he
   exact of_decide_eq_true (bw.mp (bw.mp (aJZ n n3 n6) e.1.2 (da.mpr g2)) e.1.1 (da.mpr g1))
  obtain rfl:=aAn ris srt nd mem
  have m4:=aI hl4 (.lst zs')
  have s14:=(s13.trans s4).trans m4
  refine⟨_,_,xD _,Rows.sh ((r3.same s4).same m4) (.of (m4 _ _ (s4 _ _ hB3))),Rows.sh (r4.same m4) (.of aG),_,rfl,bB (by rw[eQ];rfl) ?_⟩
  generalize upd H4 l4 (.lst zs')=H5 at *
  refine⟨_,rfl,n,rfl,n3,n6,λF6 us H6 s6 _ hF6 r6=>⟨F6,rfl, .inl ⟨⟨_, .of hF6⟩,?_⟩⟩⟩
  have s16:=s14.trans s6
  refine bJ (K:=K) (a:=F6) (xs:=us) (λi σ' H'=>Same H6 H'/\∃x6 x7,σ'=[some (.ref ta),some (.ref l),some (.ref w),some (.int (n:Int)),x4,some (.ref B),x6,x7,none,none,none,none]) ⟨Same.refl _,_,_,rfl⟩ (λi σ7 H7 _ ⟨s7,_⟩ => .of (s7 _ _ hF6)) (λi x σ7 H7 hx ⟨s7,x6,x7,es⟩=>?_) λσ7 H7 ⟨s7,x6,x7,es⟩=>?_
  ·subst es
   obtain⟨s,b,hs,rfl,hb⟩:=jP (r6.same s7) hx
   have sA:=s16.trans s7
   obtain⟨c1,c2⟩:=aBZ n3 n6 top (au hs)
   refine⟨_,rfl,_,rfl,l,b,ys,L,s,dT T n h,rfl,sA _ _ hl,cC rL λb e=>Tri.same sA,by omega,hb,okd,d0,db,λp H8 s8 hp=>?_⟩
   have e0:dI (dT T n h) (jV s L)=aAd T n h s:=by rw[<- hL];exact uH top d0 s
   rw[e0] at hp
   have hp:Fr K H8 p (lo (aAd T n h s) (dT T n h)).1 (lo (aAd T n h s) (dT T n h)).2 := .of hp
   have le:=(aIB (c:=2) d0).mpr c1
   refine⟨_,rfl,ixT (j:=0) hp rfl ⟨_,rfl,ixT (j:=1) hp rfl ⟨.inl (.inl ⟨by decide,by decide⟩),_,_,rfl,rfl,_,rfl,bB (decide_eq_false (by omega)) ?_⟩⟩⟩
   refine⟨_,rfl,b,_,rfl, .inr (s8.tup hb), .int (s.length:Int), .int ((1:Nat):Int),av _,by rw[af];rfl,rfl,_,rfl,?_⟩
   rw[aCl]
   by_cases c:s.length=1
   ·rw[c2 c,aFk d0] at hp
    refine cT (decide_eq_true c) ⟨_,rfl,show 2<=bx by decide,λu hu=>?_⟩
    have mu:=aI hu (.tup [V.int 2, .int 1])
    exact⟨_,_,zH,gH (mu.tup hp),gH (.of aG),_,rfl,bB (by rw[eQ];rfl) ⟨(s7.trans s8).trans mu,_,_,rfl⟩⟩
   ·exact bB (decide_eq_false c) (bB rfl ⟨s7.trans s8,_,_,rfl⟩)
  ·subst es
   have s17:=s16.trans s7
   refine⟨show 0<=bx by decide,λA hA=>?_⟩
   have mA:=aI hA (.lst [])
   have hA0:(upd H7 A (.lst [])) A=some (.lst []):=aG
   generalize upd H7 A (.lst [])=G at *
   refine⟨_,rfl,l,rfl, .inl ⟨⟨_, .of ((s17.trans mA) _ _ hl)⟩,?_⟩⟩
   refine bJ (K:=K) (a:=l) (xs:=ys) (λi σ' H'=>i<=ys.length/\Same H7 H'/\(∃x9 x10 x11,σ'=[some (.ref ta),some (.ref l),some (.ref w),some (.int (n:Int)),x4,some (.ref B),x6,x7,some (.ref A),x9,x10,x11])/\∃ws,H' A=some (.lst ws)/\Rows K H' ws (prI (whS T (L.take i)))) ⟨av _,mA,⟨_,_,_,rfl⟩,[],hA0,Rows.nil⟩ (λi σ8 H8 _ ⟨_,s8,_⟩ => .of ((s17.trans s8) _ _ hl)) (λi x σ8 H8 hx ⟨_,s8,⟨x9,x10,x11,es⟩,ws,hA8,r8⟩=>?_) λσ8 H8 ⟨_,s8,⟨x9,x10,x11,es⟩,ws,hA8,r8⟩=>?_
   ·subst es
    have hi:i<ys.length:=(ai.mp hx).1
    have sB:=s17.trans s8
    obtain⟨e,b,f,he,rfl,hb,hf⟩:=gS (K:=K) (H:=H8) (cC rL λb e=>Tri.same sB) hx
    obtain⟨_,g1,g2,_⟩:=fo e (au he)
    have wb:=bT e.1.1 e.1.2 (by omega) g2
    refine⟨b,_,rfl,hb,rfl,_,_,rfl,_,_,rfl,_,_,rfl,rfl,?_⟩
    refine⟨_,rfl, .inl ⟨rfl,_, .of hA8⟩,_,rfl,ixT (j:=0) hf rfl (pM (t:=0) (si:=9) (sj:=10) (i:=e.1.1) (j:=e.1.2) rfl rfl rfl (hT.same sB) qT (by omega) g2 ⟨.inl (.inr ⟨by omega,by omega⟩),_,rfl,ixT (j:=1) hf rfl ⟨show 2<=bx by decide,λu hu=>?_⟩⟩)⟩
    have mu:=aI hu (.tup [V.int (e.2.1*at2 T e.1.1 e.1.2), .int e.2.2])
    have hA9:=mu _ _ hA8
    refine⟨A,ws,_,rfl,rfl,hA9,bo (show ws.length<=100 by rw[r8.1];unfold prI whS;rw[af,af,b9];omega) (by decide),hi,cM hA (s8.trans mu),⟨_,_,_,rfl⟩,_,aG,?_⟩
    unfold whS at r8 ⊢
    rw[fI _ he,gR]
    exact Rows.put (Rows.snoc (r8.same mu) (b:=u) (r:=[_,_]) (.of aG)) hA9
   ·subst es
    rw[yl,dn] at r8
    refine⟨_,rfl,A,ws,whS T L,dT T n h,rfl,hA8,r8,λx hx=>?_,by unfold whS;rw[af];omega,d0,db,λp H9 s9 hp=>⟨_,rfl,?_⟩⟩
    ·obtain⟨e,he,rfl⟩:=bt.mp hx
     obtain⟨a1,a2,a3⟩:=fD e he
     obtain⟨_,g1,g2,_⟩:=fo e he
     have wb:=bT e.1.1 e.1.2 (by omega) g2
     exact⟨a1,a2,aw (sI a3 (show(at2 T e.1.1 e.1.2).natAbs<2 ^ 20 by omega)) (br (by decide) (by decide))⟩
    ·have ew:dI (dT T n h) (whS T L)=RT T n h (mN n) (NN n):=by rw[<- hL];exact aIm n3 n6 top d0
     rw[ew] at hp
     have s19:=(s17.trans s8).trans s9
     exact⟨_,_,zH,gH (.of hp),gH (s19.tup hw),by rw[eQ];exact q H9 s19⟩
end
theorem aGp:∀n,3<=n->n<=6->((aq n).all λj=>(aq j).all λi=>decide ((i,j)∈dA n))=true:=n36 (by decide+kernel) (by decide+kernel) (by decide+kernel) (by decide+kernel)
theorem aGa {n i j:Nat}(n3:3<=n)(n6:n<=6)(hij:i<j)(hj:j<n):∃p,p<mN n/\prA n p=(i,j):=by
 have m:=of_decide_eq_true (bw.mp (bw.mp (aGp n n3 n6) j (da.mpr hj)) i (da.mpr hij))
 obtain⟨p,hp⟩:=fh.mp m
 exact⟨p,(ai.mp hp).1,dU hp⟩
section
variable {K:ae}
def ptD (e:List Nat×(Int×Int)):Dt := .tup [.tup ((e.1.map Int.ofNat).map Dt.int), .tup [.int e.2.1, .int e.2.2]]
theorem aFr {H:Hp}{e:List Nat×(Int×Int)}{b q f:Addr}(hb:SqT K H b [.ref q, .ref f])(hq:SqT K H q (e.1.map dJ))(hf:SqT K H f [.int e.2.1, .int e.2.2]):Sh K H (ptD e) (.ref b):=⟨b,_,rfl,hb,_,_,rfl,⟨q,_,rfl,by rw[<- dM];exact hq,ShL.ints _⟩,_,_,rfl,gH hf,rfl⟩
theorem aAC {H:Hp}{l:Addr}{ys:List V}{W:Cts}(hl:H l=some (.lst ys))(rW:iM K H ys (kX W)):Sh K H (.lst (W.map ptD)) (.ref l):=by
 have yl:ys.length=W.length:=by rw[rW.1];unfold kX;rw[af]
 refine⟨l,ys,rfl, .of hl,aCc ptD yl λi e he=>?_⟩
 have hi:i<ys.length:=by rw[yl];exact(ai.mp he).1
 obtain⟨e',b,q,f,he',eb,hb,hq,hf⟩:=jG rW (ah hi)
 rw[he] at he'
 obtain rfl:=az he'
 exact⟨.ref b,by rw[ah hi,eb],aFr hb hq hf⟩
theorem aGt (W:Cts):dep (.lst (W.map ptD))<=100:=by
 have one:∀e,dep (ptD e)<=2:=λe=>by
  have h0:∀r:List Int,lV (r.map Dt.int)=0:=λr=>by
   induction r with
   |nil=>rfl
   |cons a r ih=>rw[c4,lV,ih];rfl
  have h1:dep (.tup ((e.1.map Int.ofNat).map Dt.int))=1:=by rw[dep,h0]
  have h2:dep (.tup [.int e.2.1, .int e.2.2])=1:=by rw[dep];exact congrArg (· + 1) (h0 [e.2.1,e.2.2])
  unfold ptD
  rw[dep,lV,lV,lV,h1,h2]
  decide
 have all:∀W:Cts,lV (W.map ptD)<=2:=λW=>by
  induction W with
  |nil=>decide
  |cons e W ih=>rw[c4,lV];have:=one e;omega
 have:=all W
 rw[dep]
 omega
def aLq (K:ae):Sp:=λvs H Q _=>∃(v:V) (l w:Addr) (ys:List V) (T:List (List Int)) (n:Nat) (h:Nat->Nat) (W:Cts),vs=[v, .ref l, .ref w]/\Sh K H (uZ T) v/\Quad T n/\3<=n/\n<=6/\Bs T n/\OkT T n h/\W.Perm (vJ T n h)/\((kX W).map (·.1)).Pairwise (λa b=>lexL b a=false)/\H l=some (.lst ys)/\iM K H ys (kX W)/\Fr K H w (lo (RT T n h (mN n) (NN n)) (dT T n h)).1 (lo (RT T n h (mN n) (NN n)) (dT T n h)).2/\∀H',Same H H'->Q (.bl true) H'
theorem aKu:∀vs H Q E,aLq K vs H Q E->iB K (aJi K) (aLr K) (aHg K) (gC K) (sP K) { nx:=λ_ H'=>Q .non H',rt:=Q } (bR ["table","some","worth","many","thing","sides","i","j","over","paid","whole"] vs) H:=by
 intro vs H Q E hh
 obtain⟨v,l,w,ys,T,n,h,W,rfl,hT,qT,n3,n6,bT,ok,pW,sW,hl,rW,hw,q⟩:=hh
 have d0:0<dT T n h:=ok.d0
 have db:(dT T n h).natAbs<2 ^ 2000:=aw (oY n3 n6 bT h) (br (by decide) (by decide))
 obtain⟨c15,ck⟩:=aCG n3 n6 bT ok
 have wl:W.length<=15:=by rw[pW.length_eq];exact c15
 have ck:∀e∈W,0<e.2.2/\e.2.2 ∣ dT T n h/\e.2.1.natAbs<2 ^ 900:=λe he=>ck e (pW.mem_iff.mp he)
 have cw:∀e∈W,e.1∈cW n/\ctB e.1 e.2.1 e.2.2=true/\e.2.1≠0/\(1<e.1.length->0<e.2.1):=λe he=>aCL n3 n6 ok e (pW.mem_iff.mp he)
 have okd:∀P:Pr,(∀x∈P,∃e∈W,x=e.2)->OkD (dT T n h) P:=λP hP x hx=>by
  obtain⟨e,he,rfl⟩:=hP x hx
  obtain⟨a1,a2,a3⟩:=ck e he
  exact⟨a1,a2,aw a3 (br (by decide) (by decide))⟩
 have yl:ys.length=W.length:=by rw[rW.1];unfold kX;rw[af]
 obtain⟨ta,rs,rfl,ha,hrl,_⟩:=id hT.tab
 have hrl:rs.length=n:=hrl.trans qT.len
 refine⟨_,rfl,ta,rs,rfl, .inr ha,?_⟩
 rw[hrl]
 refine⟨_,rfl, .ref l,_,"list",rfl,by decide,aAC hl rW,_,rfl,bB rfl ?_⟩
 refine⟨_,rfl,l,rfl, .inl ⟨⟨_, .of hl⟩,?_⟩⟩
 refine bJ (K:=K) (a:=l) (xs:=ys) (λi σ' H'=>Same H H'/\∃x4,σ'=[some (.ref ta),some (.ref l),some (.ref w),some (.int (n:Int)),x4,none,none,none,none,none,none]) ⟨Same.refl _,_,rfl⟩ (λi σ1 H1 _ ⟨s1,_⟩ => .of (s1 _ _ hl)) (λi x σ1 H1 hx ⟨s1,x4,es⟩=>?_) λσ1 H1 ⟨s1,x4,es⟩=>?_
 ·subst es
  obtain⟨e,b,c,f,he,rfl,hb,hc,hf⟩:=jG (K:=K) (H:=H1) (cC rW λb e=>Pt.same s1) hx
  have hm:=au he
  obtain⟨g1,g2,g3,g4⟩:=cw e hm
  obtain⟨d1,d2,d3⟩:=ck e hm
  have fr:frB e.2.1 e.2.2=true:=by
   unfold ctB at g2
   rw[b7] at g2
   exact g2.1
  refine⟨_,rfl, .ref b,_,"tuple",rfl,by decide,aFr hb hc hf,_,rfl,bB rfl ⟨_,rfl,b,_,rfl, .inr hb, .int 2, .int 2,av _,rfl,rfl,_,rfl,bB rfl ?_⟩⟩
  refine⟨_,rfl,_,rfl,ixT (j:=0) hb rfl ⟨n,c,e.1,rfl,hc,n3,n6,g1,λH2 s2=>⟨_,rfl,bB rfl ?_⟩⟩⟩
  refine⟨_,rfl,ixT (j:=1) (s2.tup hb) rfl ⟨f,e.2.1,e.2.2,rfl,s2.tup hf,fr,up8 (dW d1 d0 d2 db) (by decide),λH3 s3=>⟨_,rfl,bB rfl ?_⟩⟩⟩
  have s23:=s2.trans s3
  refine⟨_,rfl,ixT (j:=1) (s23.tup hb) rfl (ixT (j:=0) (s23.tup hf) rfl ⟨.int e.2.1, .int 0,av _,rfl,rfl,_,rfl,bB (by rw[eqD];exact beq_false_of_ne g3) ?_⟩)⟩
  refine⟨_,rfl,ixT (j:=0) (s23.tup hb) rfl ⟨c,_,rfl, .inr (s23.tup hc),_,_,rfl,rfl,_,rfl,?_⟩⟩
  rw[af]
  by_cases c1:1<e.1.length
  ·have:=g4 c1
   exact cT (decide_eq_true (by omega)) ⟨_,rfl,ixT (j:=1) (s23.tup hb) rfl (ixT (j:=0) (s23.tup hf) rfl ⟨_,_,rfl,rfl,_,rfl,bB (decide_eq_false (by omega)) ⟨s1.trans s23,_,rfl⟩⟩)⟩
  ·exact bB (decide_eq_false (by omega)) (bB rfl ⟨s1.trans s23,_,rfl⟩)
 subst es
 refine⟨_,rfl,l,rfl, .inl ⟨⟨_, .of (s1 _ _ hl)⟩,λB hB=>?_⟩⟩
 refine bJ (K:=K) (a:=l) (xs:=ys) (λi σ' H'=>i<=ys.length/\Same H1 H'/\(∃x0,σ'=[x0])/\∃zs,H' B=some (.lst zs)/\Rows K H' zs (nN ((W.take i).map (·.1)))) ⟨av _,aI hB _,⟨_,rfl⟩,[],aG,Rows.nil⟩ (λi σ3 H3 _ ⟨_,s3,_⟩ => .of (s3 _ _ (s1 _ _ hl))) (λi x' σ3 H3 hx ⟨_,s3,⟨x0,es⟩,zs,hB3,r3⟩=>?_) λσ3 H3 ⟨_,s3,_,zs,hB3,r3⟩=>?_
 ·subst es
  have hi:i<ys.length:=(ai.mp hx).1
  obtain⟨e,b,c,f,he,rfl,hb,hc,hf⟩:=jG (K:=K) (H:=H3) (cC rW λb e=>Pt.same (s1.trans s3)) hx
  refine⟨_,rfl,ixT (j:=0) hb rfl ⟨zs,hB3,bo (show zs.length<=100 by rw[r3.1,eI,af,b9];omega) (by decide),hi,cM hB s3,⟨_,rfl⟩,_,aG,?_⟩⟩
  rw[fI _ he]
  have:nN ((W.take i).map (·.1)++[e.1])=nN ((W.take i).map (·.1))++[e.1.map Int.ofNat]:=by unfold nN;rw[bz];rfl
  rw[this]
  exact Rows.put (Rows.snoc r3 (b:=c) (by rw[<- dM];exact hc)) hB3
 rw[yl,dn] at r3
 have s13:=s1.trans s3
 have ris:=aCO n3 n6 ok pW sW
 refine⟨_,rfl,_,rfl,B,zs,nN (W.map (·.1)),rfl, .of hB3,r3,λr hr=>?_,by rw[eI,af];omega,λzs' R' srt nd mem H4 s4 r4 l4 hl4=>?_⟩
 ·obtain⟨s,hs,rfl⟩:=bt.mp hr
  obtain⟨e,he,rfl⟩:=bt.mp hs
  exact of_decide_eq_true (bw.mp (aKI n n3 n6) e.1 (cw e he).1)
 obtain rfl:=aAn ris srt nd mem
 have m4:=aI hl4 (.lst zs')
 have s14:=(s13.trans s4).trans m4
 refine⟨_,_,xD _,Rows.sh ((r3.same s4).same m4) (.of (m4 _ _ (s4 _ _ hB3))),Rows.sh (r4.same m4) (.of aG),_,rfl,bB (by rw[eQ];rfl) ?_⟩
 generalize upd H4 l4 (.lst zs')=H5 at *
 refine⟨_,rfl,n,rfl,by omega,λF6 us M H6 s6 _ hF6 r6 gM _ zM=>⟨F6,rfl, .inl ⟨⟨_, .of hF6⟩,?_⟩⟩⟩
 have s16:=s14.trans s6
 refine bJ (K:=K) (a:=F6) (xs:=us) (λi σ' H'=>Same H6 H'/\∃x6 x7 x8 x9,σ'=[some (.ref ta),some (.ref l),some (.ref w),some (.int (n:Int)),x4,some (.ref B),x6,x7,x8,x9,none]) ⟨Same.refl _,_,_,_,_,rfl⟩ (λi σ7 H7 _ ⟨s7,_⟩ => .of (s7 _ _ hF6)) (λi x σ7 H7 hx ⟨s7,x6,x7,x8,x9,es⟩=>?_) λσ7 H7 ⟨s7,x6,x7,x8,x9,es⟩=>?_
 ·subst es
  obtain⟨pr,b0,hpr,rfl,hb0⟩:=rC (r6.same s7) hx
  obtain⟨g1,g2⟩:=gM pr (au hpr)
  obtain⟨p0,hp0,ep0⟩:=aGa n3 n6 g1 g2
  have sA:=s16.trans s7
  refine⟨b0,_,rfl,hb0,rfl,_,_,rfl,_,_,rfl,rfl,?_⟩
  refine⟨_,rfl,l,rfl, .inl ⟨⟨_, .of (sA _ _ hl)⟩,λC hC=>?_⟩⟩
  refine bJ (K:=K) (a:=l) (xs:=ys) (λj σ' H'=>j<=ys.length/\Same H7 H'/\(∃x0,σ'=[x0,some (dJ pr.1),some (dJ pr.2)])/\∃ws,H' C=some (.lst ws)/\RG (Pt K H') ws (kX ((W.take j).filter λe=>prt e.1 pr.1 pr.2))) ⟨av _,aI hC _,⟨_,rfl⟩,[],aG,aCr⟩ (λj σ8 H8 _ ⟨_,s8,_⟩ => .of ((sA.trans s8) _ _ hl)) (λj x' σ8 H8 hx' ⟨_,s8,⟨x0,es⟩,ws,hC8,r8⟩=>?_) λσ8 H8 ⟨_,s8,_,ws,hC8,r8⟩=>?_
  ·subst es
   have hj:j<ys.length:=(ai.mp hx').1
   obtain⟨e,b,c,f,he,rfl,hb,hc,hf⟩:=jG (K:=K) (H:=H8) (cC rW λb e=>Pt.same (sA.trans s8)) hx'
   refine⟨_,rfl,ixT (j:=0) hb rfl ⟨_,rfl,_,rfl,c,e.1,pr.1,pr.2,rfl,hc,_,rfl,?_⟩⟩
   have e1:(W.take (j+1)).filter (λe=>prt e.1 pr.1 pr.2)=(W.take j).filter (λe=>prt e.1 pr.1 pr.2)++if prt e.1 pr.1 pr.2=true then[e] else[]:=by
    rw[fz,he,jk]
    congr 1
    have:=aJn (λe:List Nat×(Int×Int)=>prt e.1 pr.1 pr.2) id e
    rw[List.map_id] at this
    exact this
   refine nQ (λcp=>?_) λcp=>?_
   ·rw[if_pos cp] at e1
    refine⟨_,rfl,ws,hC8,bo (show ws.length<=100 by rw[r8.1];unfold kX;rw[af];have:=dj (λe:List Nat×(Int×Int)=>prt e.1 pr.1 pr.2) (W.take j);rw[b9] at this;omega) (by decide),hj,cM hC s8,⟨_,rfl⟩,_,aG,?_⟩
    rw[e1]
    have:kX ((W.take j).filter (λe=>prt e.1 pr.1 pr.2)++[e])=kX ((W.take j).filter λe=>prt e.1 pr.1 pr.2)++[(e.1.map Int.ofNat,e.2)]:=by unfold kX;rw[bz];rfl
    rw[this]
    exact cC (yW r8 (b:=b) (e:=(e.1.map Int.ofNat,e.2)) ⟨c,f,hb,by rw[<- dM];exact hc,hf⟩) λb e=>Pt.x hC8 (SameX.put _)
   ·rw[if_neg cp,gu] at e1
    refine⟨hj,s8,⟨_,rfl⟩,ws,hC8,?_⟩
    rw[e1]
    exact r8
  rw[yl,dn] at r8
  have wsl:ws.length=(W.filter λe=>prt e.1 pr.1 pr.2).length:=by rw[r8.1];unfold kX;rw[af]
  have fl:=dj (λe:List Nat×(Int×Int)=>prt e.1 pr.1 pr.2) W
  have sB:=sA.trans s8
  refine⟨_,rfl,C,rfl, .inl ⟨⟨_, .of hC8⟩,λG hG=>?_⟩⟩
  refine bJ (K:=K) (a:=C) (xs:=ws) (λj σ' H'=>j<=ws.length/\Same H8 H'/\(∃x0,σ'=[x0])/\∃us2,H' G=some (.lst us2)/\Rows K H' us2 (prI (((W.filter λe=>prt e.1 pr.1 pr.2).take j).map (·.2)))) ⟨av _,aI hG _,⟨_,rfl⟩,[],aG,Rows.nil⟩ (λj σ9 H9 _ ⟨_,s9,_⟩ => .of (s9 _ _ hC8)) (λj x' σ9 H9 hx' ⟨_,s9,⟨x0,es⟩,us2,hG9,r9⟩=>?_) λσ9 H9 ⟨_,s9,_,us2,hG9,r9⟩=>?_
  ·subst es
   have hj:j<ws.length:=(ai.mp hx').1
   obtain⟨e,b,c,f,he,rfl,hb,hc,hf⟩:=jG (K:=K) (H:=H9) (cC r8 λb e=>Pt.same s9) hx'
   refine⟨_,rfl,ixT (j:=1) hb rfl ⟨us2,hG9,bo (show us2.length<=100 by rw[r9.1];unfold prI;rw[af,af,b9];omega) (by decide),hj,cM hG s9,⟨_,rfl⟩,_,aG,?_⟩⟩
   rw[fI _ he,gR]
   exact Rows.put (Rows.snoc r9 (b:=f) (r:=[e.2.1,e.2.2]) hf) hG9
  rw[wsl,dn] at r9
  have sC:=sB.trans s9
  refine⟨G,us2,tW pr.1 pr.2 W,dT T n h,rfl,hG9,r9,okd _ λx hx=>?_,by unfold tW;rw[af];omega,d0,db,λp H10 s10 hp=>?_⟩
  ·obtain⟨e,he,rfl⟩:=bt.mp hx
   exact⟨e,(gf.mp he).1,rfl⟩
  have hp:Fr K H10 p (lo (dI (dT T n h) (tW pr.1 pr.2 W)) (dT T n h)).1 (lo (dI (dT T n h) (tW pr.1 pr.2 W)) (dT T n h)).2 := .of hp
  have le:=aFG n3 n6 ok pW hp0
  rw[ep0] at le
  have le:=(aHj (c:=at2 T pr.1 pr.2) d0).mpr le
  have sD:=sC.trans s10
  have wb:=bT pr.1 pr.2 (by omega) g2
  refine⟨_,rfl,ixT (j:=0) hp rfl (pM (t:=0) (si:=6) (sj:=7) (i:=pr.1) (j:=pr.2) rfl rfl rfl (hT.same sD) qT (by omega) g2 ⟨_,rfl,ixT (j:=1) hp rfl ⟨.inl (.inl ⟨by omega,by omega⟩),_,_,rfl,rfl,_,rfl,bB (decide_eq_false (Int.not_lt.mpr le)) ⟨((s7.trans s8).trans s9).trans s10,_,_,_,_,rfl⟩⟩⟩)⟩
 subst es
 have s17:=s16.trans s7
 refine⟨_,rfl,l,rfl, .inl ⟨⟨_, .of (s17 _ _ hl)⟩,λA hA=>?_⟩⟩
 refine bJ (K:=K) (a:=l) (xs:=ys) (λi σ' H'=>i<=ys.length/\Same H7 H'/\(∃x0 x1,σ'=[x0,x1])/\∃ws,H' A=some (.lst ws)/\Rows K H' ws (prI ((W.take i).map (·.2)))) ⟨av _,aI hA _,⟨_,_,rfl⟩,[],aG,Rows.nil⟩ (λi σ8 H8 _ ⟨_,s8,_⟩ => .of (s8 _ _ (s17 _ _ hl))) (λi x' σ8 H8 hx ⟨_,s8,⟨x0,x1,es⟩,us2,hB9,r9⟩=>?_) λσ8 H8 ⟨_,s8,_,us2,hB9,r9⟩=>?_
 ·subst es
  have hi:i<ys.length:=(ai.mp hx).1
  obtain⟨e,b,c,f,he,rfl,hb,hc,hf⟩:=jG (K:=K) (H:=H8) (cC rW λb e=>Pt.same (s17.trans s8)) hx
  refine⟨b,_,rfl,hb,rfl,_,_,rfl,_,_,rfl,rfl,?_⟩
  refine⟨_,rfl,us2,hB9,bo (show us2.length<=100 by rw[r9.1];unfold prI;rw[af,af,b9];omega) (by decide),hi,cM hA s8,⟨_,_,rfl⟩,_,aG,?_⟩
  rw[fI _ he,gR]
  exact Rows.put (Rows.snoc r9 (b:=f) (r:=[e.2.1,e.2.2]) hf) hB9
 rw[yl,dn] at r9
 refine⟨_,rfl,_,rfl, .inl ⟨A,A,us2,us2,rfl,rfl,hB9,hB9,?_,λX hX=>?_⟩⟩
 ·rw[r9.1]
  unfold prI
  rw[af,af]
  exact c9 (show _<=100 by omega) (by decide)
 have mX:=aI hX (.lst (us2++us2))
 have s18:=(s17.trans s8).trans mX
 refine⟨X,us2++us2,W.map (·.2)++W.map (·.2),dT T n h,rfl,aG,by rw[gR];exact(nY r9 r9).same mX,okd _ λx hx=>?_,by rw[bc,af];omega,d0,db,λp H9 s9 hp=>⟨_,rfl,?_⟩⟩
 ·rcases du.mp hx with hx | hx
  ·obtain⟨e,he,rfl⟩:=bt.mp hx
   exact⟨e,he,rfl⟩
  ·obtain⟨e,he,rfl⟩:=bt.mp hx
   exact⟨e,he,rfl⟩
 ·have ew:dI (dT T n h) (W.map (·.2)++W.map (·.2))=RT T n h (mN n) (NN n):=by
   rw[sX,<- aBM ok pW]
   omega
  rw[ew] at hp
  have s19:=s18.trans s9
  exact⟨_,_,zH,gH (.of hp),gH (s19.tup hw),by rw[eQ];exact q H9 s19⟩
end
section
variable {K:ae}{C1 C2 C3:Addr}
theorem aIc {H H':Hp}{v:V}{p:Addr}{T:List (List Int)}{ys:List V}(h:Sh K H (uZ T) v)(hp:H p=some (.lst ys))(sx:SameX p H H'):Sh K H' (uZ T) v:=by
 obtain⟨a,rs,rfl,ha,hl,g⟩:=h.tab
 exact⟨a,rs,rfl,qE ha hp sx,ShL.of_rows hl λi row e=>by
  obtain⟨b,e1,e2⟩:=g i row e
  exact⟨b,e1,qE e2 hp sx⟩⟩
def aEv (K:ae):Sp:=λvs H Q _=>∃(a:Addr) (ns:List Int),vs=[.ref a]/\SqL K H a (ns.map V.int)/\ns.length<=63/\∀H',Q (.bl true) H'
theorem aHv:∀vs H Q E,aEv K vs H Q E->aIh K (aLq K) (aKN K) (aFl K) (aJi K) (aFC K) (aHB K C1 C2 C3) (aHV K C1 C2 C3) (aHA K C1 C2 C3) { nx:=λ_ H'=>Q .non H',rt:=Q } (bR ["script","feed","turn_v","table","again","told","worth","some","cuts","kept"] vs) H:=by
 intro vs H Q E h
 obtain⟨a,ns0,rfl,hS0,h63,q⟩:=h
 refine⟨_,rfl,a,ns0,rfl,hS0,λp l ns H0 s0 hP0=>?_⟩
 refine⟨2,rfl,by decide,by decide,?_⟩
 refine cZ (lo:=0) (n:=2) (λi σ' H'=>Pen H' p l ns/\∃x2 x3 x4 x5 x6 x7 x8 x9,σ'=[some (.ref a),some (.ref p),x2,x3,x4,x5,x6,x7,x8,x9]) ⟨hP0,_,_,_,_,_,_,_,_,rfl⟩ (λi σ' H' hi ⟨hP,x2,x3,x4,x5,x6,x7,x8,x9,es⟩=>?_) λσ' H' _=>q H'
 subst es
 refine⟨_,rfl,p,l,ns,3,3,rfl,by decide,by decide,hP,λT n v H1 n3 n6 qT bT sT hS1 hP1 sx1=>?_⟩
 have n6:n<=6:=n6
 refine⟨2,rfl,by decide,by decide,?_⟩
 refine cZ (lo:=0) (n:=2) (λi σ' H'=>Pen H' p l ns/\Sh K H' (uZ T) v/\∃x2 x4 x5 x6 x7 x8 x9,σ'=[some (.ref a),some (.ref p),x2,some v,x4,x5,x6,x7,x8,x9]) ⟨hP1,hS1,_,_,_,_,_,_,_,rfl⟩ (λi σ' H' hi ⟨hP,hS,x2,x4,x5,x6,x7,x8,x9,es⟩=>?_) λσ' H' ⟨hP,_,x2,x4,x5,x6,x7,x8,x9,es⟩=>⟨hP,_,_,_,_,_,_,_,_,es⟩
 subst es
 refine⟨_,rfl,v,T,n,rfl,hS,qT,by omega,by omega, .inr ⟨sT, .inr (.inr ⟨n3,n6,bT,λh t wp fl cl ys zs W' H2 s2 ok top ht hwp nfl hfl rQ ncl nff hcl pW' sW' rP=>?_⟩)⟩⟩
 obtain⟨W,pW,rfl⟩:=aDI pW'
 have top:Top T n h:=top
 have rQ:zD K H2 ys (jL (kO T n h)):=by rw[<- aId];exact rQ
 have d0:0<dT T n h:=ok.d0
 have dB:=oY n3 n6 bT h
 have db:(dT T n h).natAbs<2 ^ 2000:=aw dB (br (by decide) (by decide))
 have hw2:Fr K H2 wp (lo (RT T n h (mN n) (NN n)) (dT T n h)).1 (lo (RT T n h (mN n) (NN n)) (dT T n h)).2 := .of hwp
 generalize hw0:lo (RT T n h (mN n) (NN n)) (dT T n h)=w0 at hw2 hwp
 have st:Sh K H2 (.tup [.tup [.int w0.1, .int w0.2], .lst ((kO T n h).map aJo), .lst (W.map ptD)]) (.ref t):=⟨t,_,rfl, .of ht,_,_,rfl,gH hw2,_,_,rfl,aBY hfl rQ,_,_,rfl,aAC hcl rP,rfl⟩
 refine⟨_,rfl, .ref t,_,"tuple",rfl,by decide,st,_,rfl,bB rfl ⟨_,rfl,t,_,rfl, .inr (.of ht), .int 3, .int 3,av _,rfl,rfl,_,rfl,bB rfl ?_⟩⟩
 refine⟨_,rfl,t,_,rfl, .of ht,rfl,_,_,rfl,_,_,rfl,_,_,rfl,rfl,?_⟩
 have fw:frB w0.1 w0.2=true:=by rw[<- hw0];exact aCZ d0
 have wd:w0.2 ∣ dT T n h/\0<w0.2:=by rw[<- hw0];exact⟨oJ d0,hU d0⟩
 refine⟨_,rfl,wp,_,_,rfl,hw2,fw,up8 (dW wd.2 d0 wd.1 db) (by decide),λH3 s3=>⟨_,rfl,bB rfl ?_⟩⟩
 have sA:=s2.trans s3
 have hw3:Fr K H3 wp (lo (RT T n h (mN n) (NN n)) (dT T n h)).1 (lo (RT T n h (mN n) (NN n)) (dT T n h)).2:=by rw[hw0];exact s3.tup hw2
 refine⟨_,rfl,_,rfl,_,rfl,v,fl,wp,ys,T,n,h,rfl,hS.same sA,qT,n3,n6,bT,ok,top,s3 _ _ hfl,cC rQ λb e=>Tri.same s3,hw3,λH4 s4=>⟨_,rfl,bB rfl ?_⟩⟩
 have s24:=s3.trans s4
 have sB:=sA.trans s4
 refine⟨_,rfl,_,rfl,_,rfl,v,cl,wp,zs,T,n,h,W,rfl,hS.same sB,qT,n3,n6,bT,ok,pW,sW',s24 _ _ hcl,cC rP λb e=>Pt.same s24,s4.tup hw3,λH5 s5=>⟨_,rfl,bB rfl ?_⟩⟩
 have s25:=s24.trans s5
 have sC:=sB.trans s5
 have hw5:=(s4.trans s5).tup hw3
 have fo:=aFE n3 n6 d0
 have fD:=aIg n3 n6 bT d0
 have f15:=aDw (T:=T) (h:=h) n3 n6
 have yS:=aBn n3 n6 top ok
 refine⟨_,rfl,_,rfl,_,rfl,v, .ref fl, .ref wp,T,n,rfl,hS.same sC,qT,by omega,by omega, .inr ⟨sT, .inr (.inr ⟨n3,n6,fl,wp,(lo (RT T n h (mN n) (NN n)) (dT T n h)),ys,rfl,rfl,bT,hw5,s25 _ _ hfl, .inr ⟨kO T n h,dT T n h,cC rQ λb e=>Tri.same s25,by omega,λe he=>?_,λx hx=>?_,λe he=>?_,d0,db,λH6 s6=>?_⟩⟩)⟩⟩
 ·obtain⟨a1,a2,a3,a4⟩:=fo e he
  exact⟨a1,by omega,a3⟩
 ·obtain⟨e,he,rfl⟩:=bt.mp hx
  obtain⟨a1,a2,a3⟩:=fD e he
  exact⟨a1,a2,aw a3 (br (by decide) (by decide))⟩
 ·exact aw (fD e he).2.2 (br (by decide) (by decide))
 rw[yS]
 refine .inl ⟨_,_,rfl,rfl,_,rfl,bB rfl ?_⟩
 have s26:=s25.trans s6
 have sD:=sC.trans s6
 obtain⟨c15,ck⟩:=aCG n3 n6 bT ok
 have wl:W.length<=15:=by rw[pW.length_eq];exact c15
 have ck:∀e∈W,0<e.2.2/\e.2.2 ∣ dT T n h/\e.2.1.natAbs<2 ^ 900:=λe he=>ck e (pW.mem_iff.mp he)
 have cw:∀e∈W,e.1∈cW n/\ctB e.1 e.2.1 e.2.2=true/\e.2.1≠0/\(1<e.1.length->0<e.2.1):=λe he=>aCL n3 n6 ok e (pW.mem_iff.mp he)
 have yC:=aDY n3 n6 ok pW sW'
 refine⟨_,rfl,_,rfl,_,rfl,v, .ref cl, .ref wp,T,n,rfl,hS.same sD,qT,by omega,by omega, .inr ⟨sT, .inr (.inr ⟨n3,n6,cl,wp,(lo (RT T n h (mN n) (NN n)) (dT T n h)),zs,rfl,rfl,bT,s6.tup hw5,s26 _ _ hcl, .inr ⟨W,dT T n h,cC rP λb e=>Pt.same s26,by omega,λe he=>?_,λx hx=>?_,d0,aw dB (br (by decide) (by decide)),λe he=>(ck e he).2.2,λH7 s7=>?_⟩⟩)⟩⟩
 ·exact⟨(cw e he).1,(cw e he).2.1⟩
 ·obtain⟨e,he,rfl⟩:=bt.mp hx
  obtain⟨a1,a2,a3⟩:=ck e he
  exact⟨a1,a2,aw a3 (br (by decide) (by decide))⟩
 rw[yC]
 refine .inl ⟨_,_,rfl,rfl,_,rfl,bB rfl ?_⟩
 have s27:=s26.trans s7
 have sE:=sD.trans s7
 have hcl7:=s27 _ _ hcl
 refine⟨_,rfl, .inl ⟨cl,zs,rfl, .inl (.of hcl7),λk hk=>?_⟩⟩
 have mk:=aI hk (.lst zs)
 have hk8:(upd H7 k (.lst zs)) k=some (.lst zs):=aG
 generalize upd H7 k (.lst zs)=H8 at *
 have s28:=s27.trans mk
 have sF:=sE.trans mk
 have hfl8:=s28 _ _ hfl
 have hcl8:=s28 _ _ hcl
 have rP8:iM K H8 zs (kX W):=cC rP λb e=>Pt.same s28
 have kf:k≠fl:=λe=>by rw[e,s27 _ _ hfl] at hk;cases hk
 refine⟨_,rfl, .inl ⟨rfl,_, .of hfl8⟩,fl,ys,rfl,rfl,hfl8,?_⟩
 have x9:SameX fl H8 (upd H8 fl (.lst [])):=SameX.put _
 have nP:=hP.ne nfl
 have hP9:Pen (upd H8 fl (.lst [])) p l ns:=(hP.x sF).upd nP.1 nP.2
 have hS9:Sh K (upd H8 fl (.lst [])) (uZ T) v:=aIc (hS.same sF) hfl8 x9
 have rP9:iM K (upd H8 fl (.lst [])) zs (kX W):=cC rP8 λb e=>Pt.x hfl8 x9
 have hcl9:(upd H8 fl (.lst [])) cl=some (.lst zs):=x9 _ _ nff hcl8
 have hk9:(upd H8 fl (.lst [])) k=some (.lst zs):=x9 _ _ kf hk8
 generalize upd H8 fl (.lst [])=H9 at *
 refine⟨_,rfl,_,rfl,_,_,aGt W,aAC hcl9 rP9,aAC hk9 rP9,_,rfl,bB (by rw[eQ];rfl) ?_⟩
 have zl:zs.length=W.length:=by rw[rP9.1];unfold kX;rw[af]
 have nC:=hP.ne ncl
 exact⟨_,rfl, .inl ⟨rfl,_, .of hcl9⟩,cl,zs,_,rfl,rfl,hcl9,bo (show zs.length<=100 by omega) (by decide),hP9.upd nC.1 nC.2,aIc hS9 hcl9 (SameX.put _),_,_,_,_,_,_,_,rfl⟩
end
section
variable {K:ae}{C_NotEven C_TooFew C_TooMany:Addr}
end
theorem all_mk {P:Program}{w:World}{K:ae}{h:Heap}{mg:Str->Option Value}{fa:Addr}(X:K.In h)(G:h.Ns c7 mg)(hfa:mg "law" = some (.ref fa))
  (h0:FnIn K "is_whole" "is_whole" (top 6))
  (h1:FnIn K "are_wholes" "are_wholes" (top 7))
  (h2:FnIn K "lowest" "lowest" (top 9))
  (h3:FnIn K "common_measure" "common_measure" (top 10))
  (h4:FnIn K "is_fraction" "is_fraction" (top 11))
  (h5:FnIn K "times" "times" (top 12))
  (h6:FnIn K "is_less" "is_less" (top 13))
  (h7:FnIn K "common_bottom" "common_bottom" (top 14))
  (h8:FnIn K "tops_over" "tops_over" (top 15))
  (h9:FnIn K "total" "total" (top 16))
  (h10:FnIn K "is_even" "is_even" (top 18))
  (h11:FnIn K "refuse_unfit" "refuse_unfit" (top 23))
  (h12:FnIn K "all_pairs" "all_pairs" (top 24))
  (h13:FnIn K "all_sets" "all_sets" (top 25))
  (h14:FnIn K "does_part" "does_part" (top 26))
  (h15:FnIn K "shares" "shares" (top 27))
  (h16:FnIn K "price_steps" "price_steps" (top 28))
  (h17:FnIn K "first_rows" "first_rows" (top 29))
  (h18:FnIn K "climb" "climb" (top 30))
  (h19:FnIn K "rising_column" "rising_column" (top 31))
  (h20:FnIn K "tightest_row" "tightest_row" (top 32))
  (h21:FnIn K "is_tighter" "is_tighter" (top 33))
  (h22:FnIn K "turn" "turn" (top 34))
  (h23:FnIn K "told_cuts" "told_cuts" (top 35))
  (h24:FnIn K "are_shares" "are_shares" (top 36))
  (h25:FnIn K "is_share" "is_share" (top 37))
  (h26:FnIn K "do_rise" "do_rise" (top 38))
  (h27:FnIn K "over_cut" "over_cut" (top 39))
  (h28:FnIn K "are_cuts" "are_cuts" (top 40))
  (h29:FnIn K "is_cut" "is_cut" (top 41))
  (h30:FnIn K "between" "between" (top 42))
  (h31:FnIn K "_law_cmixed" "_law_cmixed" (top 44))
  (h32:FnIn K "_law_copen" "_law_copen" (top 45))
  (h33:FnIn K "_law_cdraw" "_law_cdraw" (top 46))
  (h34:FnIn K "_law_cwhole" "_law_cwhole" (top 47))
  (h35:FnIn K "_law_cpairs" "_law_cpairs" (top 48))
  (h36:FnIn K "_law_cshort" "_law_cshort" (top 49))
  (h37:FnIn K "_law_ceven" "_law_ceven" (top 50))
  (h38:FnIn K "_law_clow" "_law_clow" (top 51))
  (h39:FnIn K "_law_cplus" "_law_cplus" (top 52))
  (h40:FnIn K "_law_cis_fraction" "_law_cis_fraction" (top 53))
  (h41:FnIn K "_law_cis_tie" "_law_cis_tie" (top 54))
  (h42:FnIn K "_law_csets" "_law_csets" (top 55))
  (h43:FnIn K "_law_cover" "_law_cover" (top 56))
  (h44:FnIn K "_law_care_shares" "_law_care_shares" (top 57))
  (h45:FnIn K "_law_cis_side" "_law_cis_side" (top 58))
  (h46:FnIn K "_law_care_cuts" "_law_care_cuts" (top 59))
  (h47:FnIn K "_law_cover_sum" "_law_cover_sum" (top 60))
  (h48:FnIn K "law" "law" (top 61))
  (Z:ZIn K)
  {tk_LEAST_PLACES:Tok} (g_LEAST_PLACES:dy K c7 "LEAST_PLACES" = some (some (.int 3 tk_LEAST_PLACES)))
  {tk_MOST_PLACES:Tok} (g_MOST_PLACES:dy K c7 "MOST_PLACES" = some (some (.int 6 tk_MOST_PLACES)))
  {C_NotEven:Addr} (ac_NotEven:dy K c7 "NotEven" = some (some (.ref C_NotEven)))
  {C_TWO:Addr} (ac_TWO:dy K c7 "TWO" = some (some (.ref C_TWO)))
  {C_TooFew:Addr} (ac_TooFew:dy K c7 "TooFew" = some (some (.ref C_TooFew)))
  {C_TooMany:Addr} (ac_TooMany:dy K c7 "TooMany" = some (some (.ref C_TooMany)))
  (XC_NotEven:j9 K C_NotEven aFd "ValueError.__new__" = true)
  (XC_TooFew:j9 K C_TooFew aFd "ValueError.__new__" = true)
  (XC_TooMany:j9 K C_TooMany aFd "ValueError.__new__" = true)
  (z_any:dy K c7 "any" = some none)
  {nS:Nat}{slS:Array (Option Value)}{tS tT:Tok}
  (lT2:K.lookup C_TWO=some ⟨.type "tuple",none, .seq #[.int 2 tS, .int 1 tT] nS,slS⟩) :
  ∃fd:FuncData,(∀(s:Shared) (v:Value),Ai s fd ⟨[v],[]⟩ [("script",v)])/\∀base:Heap,K.In base->base.Ns c7 mg->FnOk P w K mg base CX0 6 fa fd ["script"] (aEv K):=by
 have B:=Z.blt X G
 have G_LEAST_PLACES:=ka X G g_LEAST_PLACES
 have G_MOST_PLACES:=ka X G g_MOST_PLACES
 have GC_NotEven:=ka X G ac_NotEven
 have GC_TWO:=ka X G ac_TWO
 have GC_TooFew:=ka X G ac_TooFew
 have GC_TooMany:=ka X G ac_TooMany
 have GA:=PySem.W.mg_none_of X G z_any
 have hT2:∀H:Hp,Fr K H C_TWO 2 1:=λH => .inr ⟨_,_,_,lT2,rfl,rfl,rfl,by show 2<=bx;decide, .cons ⟨_,rfl⟩ (.cons ⟨_,rfl⟩ .nil)⟩
 refine' h48.law X G hfa (λb=>?_) (aHv)
 have aBw:=h0.dN P w b X G (yL B) (K36.L.rd_whole)
 have fA:=h3.dN P w b X G (lN B) (aKv)
 have xI:=h6.dN P w b X G (aBg ) (aJC)
 have zS:=h8.dN P w b X G (wP ) (aKy)
 have aDz:=h10.dN P w b X G (aBo B) (aHa)
 have pY:=h12.dN P w b X G (vG B) (aJH)
 have lZ:=h13.dN P w b X G (yD B) (aKp)
 have jT:=h14.dN P w b X G (wK ) (aIs)
 have pZ:=h19.dN P w b X G (nD B) (aKs)
 have xJ:=h21.dN P w b X G (uO ) (aKB)
 have aJe:=h22.dN P w b X G (aFW B) (aKd)
 have xK:=h26.dN P w b X G (aBv B) (aJG)
 have uU:=h31.dN P w b X G (qR ) (aHz)
 have xL:=h32.dN P w b X G (tK B) (aGV)
 have gZ:=h34.dN P w b X G (qQ B) (K36.L.rd_whole)
 have kT:=h35.dN P w b X G (qF B) (aEH)
 have uV:=h36.dN P w b X G (qG B) (aCd)
 have qA:=h38.dN P w b X G (wV B) (aFL)
 have xM:=h42.dN P w b X G (sN B) (aHQ)
 have nB:=h43.dN P w b X G (uD ) (aIs)
 have iR:=h1.dN P w b X G (sZ B aBw) (K36.L.rd_wholes)
 have oC:=h2.dN P w b X G (aDr fA) (aIo)
 have qB:=h7.dN P w b X G (nE fA) (aJA)
 have fT:=h11.dX P w b X G (pP B G_LEAST_PLACES G_MOST_PLACES GC_NotEven GC_TooFew GC_TooMany XC_NotEven XC_TooFew XC_TooMany aDz) (aKb)
 have uW:=h16.dN P w b X G (qI B lZ) (aKK)
 have xN:=h17.dN P w b X G (uB jT) (aJI)
 have qS:=h20.dN P w b X G (oF B xJ) (aKe)
 have xO:=h33.dN P w b X G (tQ B uU) (aGM)
 have iS:=h39.dN P w b X G (uR qA) (aKL)
 have eD:=h40.dN P w b X G (jA B qA gZ) (aKC)
 have qU:=h41.dN P w b X G (oQ B gZ) (aGo)
 have qC:=h45.dN P w b X G (nK B gZ) (aKJ)
 have kU:=h4.dN P w b X G (qH B fA iR) (aJJ)
 have aDA:=h5.dN P w b X G (aDV oC) (aIV)
 have uX:=h9.dN P w b X G (aDN B oC qB zS) (aIQ)
 have aHe:=h18.dN P w b X G (aEf pZ qS aJe) (aJS)
 have zT:=h23.dN P w b X G (wS B oC) (aJL)
 have xP:=h37.dN P w b X G (tG B xO kT uV) (aDW)
 have nL:=h46.dN P w b X G (lU B kT eD iS qC nB) (aKu)
 have nM:=h47.dN P w b X G (lY iS nB) (aIe)
 have aDB:=h15.dX P w b X G (aDn B oC pY aHe xN uW zT fT) (aHT)
 have aBx:=h25.dN P w b X G (yJ B iR kU) (aJD)
 have aBy:=h27.dN P w b X G (yI jT uX) (aJV)
 have aEO:=h29.dN P w b X G (aCY B iR lZ kU) (aJz)
 have aDC:=h30.dN P w b X G (aBf jT uX) (aKn)
 have kW:=h44.dN P w b X G (jR B eD qU nM iS xM) (aKG)
 have uY:=h24.dX P w b X G (uM B fT lZ GC_TWO GA xK xI aBx aBy aDA uX) (aIk hT2)
 have zU:=h28.dX P w b X G (yF B pY fT GC_TWO GA xK xI aDA uX aDC aEO) (aHp hT2)
 exact aHs B eD nL kW xP xL zU uY aDB
theorem walk {l:PySem.W.OpenLaw}{q:Program}{loose:List Str}{XP:(Str->Option Value)->Heap->Prop}{YP:World->Heap->Prop}{d:DefRec}{K:Params->ae}(hn:l.most=some 63)(hdf:d.params.defaults=[])
  (hY:∀(w:World) (h:Heap),YP w h->(K w.params).In h)
  (F:∀(w:World) (mg:Str->Option Value) (fa:Addr) (h:Heap),(K w.params).In h->h.Ns c7 mg->mg d.name=some (.ref fa) ->
   ∃fd:FuncData,(∀(s:Shared) (u:Value),Ai s fd ⟨[u],[]⟩ [("script",u)])/\∀base:Heap,(K w.params).In base->base.Ns c7 mg->FnOk l.prog w (K w.params) mg base CX0 6 fa fd ["script"] (aEv (K w.params))) :
  PySem.W.WalkO q loose XP YP l.row.toRowW d [] (λf vs=>PySem.call f vs):=
 L2.aGN (n:=63) (k:=6) (x:="script") (CX:=λ_=>CX0) (sp:=λw=>aEv (K w.params)) hn (by decide) hdf ⟨rfl,by decide,by decide,rfl⟩ hY F (λ_ _ a ns hl _ hS=>⟨a,ns,rfl,hS,hl,λ_=>rfl⟩) λ_ _ _ _ _ z=>z
end K36
open PySem PySem.W PyProof.Rows
def PySem.W.Fast.tw18278169364584029002:=0
def PySem.W.Fast.tw12176324718124577776:=0
def PySem.W.Fast.tw12397788719184372936:=0
def PySem.W.Fast.tw13341635199899017843:=0
def PySem.W.Fast.tw10447278887050460780:=0
def PySem.W.Fast.tw12288935005400695309:=0
def PySem.W.Fast.tw6050929225540458996:=0
def PySem.W.Fast.tw866858783834973870:=0
def PySem.W.Fast.tw11073308552297073587:=0
def PySem.W.Fast.tw10434534439804735569:=0
def PySem.W.Fast.tw10168532949044190974:=0
def PySem.W.Fast.tw15000364751387826568:=0
def PySem.W.Fast.tw9659845920548735687:=0
def PySem.W.Fast.tw10489760849977239346:=0
def PySem.W.Fast.tw1214337619222484340:=0
def PySem.W.Fast.tw5946052907862972723:=0
def PySem.W.Fast.tw11581987558783529788:=0
def PySem.W.Fast.tw6423941529749444896:=0
def PySem.W.Fast.tw2076690685577855825:=0
def PySem.W.Fast.tw6217844506467139717:=0
def PySem.W.Fast.tw4228962282187124264:=0
def PySem.W.Fast.tw640442650461920450:=0
def PySem.W.Fast.tw8828695288604934257:=0
def PySem.W.Fast.tw4780952125660412382:=0
def PySem.W.Fast.tw934995158837471456:=0
def PySem.W.Fast.tw9502334691887113449:=0
def PySem.W.Fast.tw17758087775294365556:=0
def PySem.W.Fast.tw11648402447217028968:=0
def PySem.W.Fast.tw299985550057865196:=0
def PySem.W.Fast.tw588113577354059638:=0
def PySem.W.Fast.tw4208947125031061276:=0
def PySem.W.Fast.tw13959130927374879001:=0
def PySem.W.Fast.tw14871752462170867723:=0
def PySem.W.Fast.tw3199922886535562050:=0
set_option maxRecDepth 100000 in
set_option maxHeartbeats 0 in
theorem PySem.Challenge.cw_homeround_k36_shares_told_holds : PySem.Challenge.rw_homeround_k36_shares_told.Holds := by
  w_on; o_law; k_head; (case hw => w_witness2)
  k_fill
  refine K36.walk (l := PySem.Challenge.rw_homeround_k36_shares_told) rfl rfl (λw h Y => PySem.W.kIn_of Y) ?F
  case F =>
    intro w mg fa h KX G hmg
    refine' K36.all_mk KX G hmg ?h0 ?h1 ?h2 ?h3 ?h4 ?h5 ?h6 ?h7 ?h8 ?h9 ?h10 ?h11 ?h12 ?h13 ?h14 ?h15 ?h16 ?h17 ?h18 ?h19 ?h20 ?h21 ?h22 ?h23 ?h24 ?h25 ?h26 ?h27 ?h28 ?h29 ?h30 ?h31 ?h32 ?h33 ?h34 ?h35 ?h36 ?h37 ?h38 ?h39 ?h40 ?h41 ?h42 ?h43 ?h44 ?h45 ?h46 ?h47 ?h48 ?Z ?g_LEAST_PLACES ?g_MOST_PLACES ?ac_NotEven ?ac_TWO ?ac_TooFew ?ac_TooMany ?XC_NotEven ?XC_TooFew ?XC_TooMany ?z_any ?lT2
    case h0 | h1 | h2 | h3 | h4 | h5 | h6 | h7 | h8 | h9 | h10 | h11 | h12 | h13 | h14 | h15 | h16 | h17 | h18 | h19 | h20 | h21 | h22 | h23 | h24 | h25 | h26 | h27 | h28 | h29 | h30 | h31 | h32 | h33 | h34 | h35 | h36 | h37 | h38 | h39 | h40 | h41 | h42 | h43 | h44 | h45 | h46 | h47 | h48 => refine' L2.FnIn.mk ?a ?l ?c ?k; (case a => k_is); (case l => k_is); (case c => k_is); (case k => k_is)
    case Z => constructor <;> k_is
    case g_LEAST_PLACES | g_MOST_PLACES | ac_NotEven | ac_TWO | ac_TooFew | ac_TooMany | z_any => k_is
    case XC_NotEven | XC_TooFew | XC_TooMany | lT2 => first | k_is | kernel_rfl
