import PyProof.Rows.All
import Wide.All
import OpenK.AllK
import Wide.FinOn
import Lean
import PyProof.EqAt
import PyProof.EqKinds
import PyProof.TupleCall
import PyProof.Rows.SetFrom
import PyProof.ExcAttrAll.ValueError
import KE.KDictList
import KE.KRevIter
import KE.KPairComp
import PyProof.EqAt
import KE.KSortTup
import PyProof.DictValues
import KE.KIsAll
import KE.KIntText
import PyProof.StrCalls2
import PyProof.CallStr
import PyProof.StrLawsTight
import PyProof.StrLawsChain
import KE.KItemsList
import PySem.Challenge.RW_homeround_k64_rounds_of_trees
set_option Elab.async false
set_option linter.all false
set_option maxRecDepth 100000
set_option maxHeartbeats 4000000
noncomputable section
open PySem.W renaming Frag->aa,nsIn->dn,mg_of->i5,kitOne->jj,fnOf->jw,findIn->ka,kas_sort->lu,excIn->ni,Looks->o3,keepIn->o9,kas_place->pk,cellsFrom_some->r9,kas_rev->uh,looks_findIn->uu,clsIn->va,kas_desc->wx,kas_descPart->wz,codeIn->xb,kitAny->xh,exmOne->xi,methodObj->xk,mroIn->yh,kas_asc->yi,hideAll_get->Ay,subIn->A0,kas_count->A2,kas_tail3->BA,kas_bin->BB
open PySem renaming wpAny_bind->af,wpAny_pure->aq,sizeLine->ba,mainGlobals->cp,wpAny_holding->ef,bootBuiltins->ei,wpAny_newObj_type->fb,wpAny_call_entry->fc,starEach->fi,mem_of_lookup->fk,wpAny_seqItems->fm,wpAny_mono->fz,wpAny_setField_rec->f9,wpAny_callSpecial?_slot->gi,wpAny_field->gy,wpAny_truthy_bool->iw,compareOp->i8,Spec->js,sysModules->jt,argBest->ju,codeAny_builtin->jy,wpAny_typeNameOfWhole_itemiter->jz,cellsFrom->j5,wpAny_letGo->kg,binaryOp->km,intKind->ly,wpAny_tryCatch->l8,wpAny_typeNameOf_itemiter->l9,wpAny_passesOwn->me,wpAny_updateSeq->mi,plainId_quiet->ng,wpAny_isOneOf_itemiter->n6,tupleKeyHash->ow,foldedSetIterable->oz,wpAny_isInstance->pz,richCompare->qb,codeAny_mono->qg,IsItemIter->qk,wpAny_standAt->qp,attributeBase->qu,wpAny_Call_method0_late->qv,wpAny_specialOf->qx,wpAny_newList->qz,wpAny_attempt->q9,assignEach->sv,wpAny_rule->tf,sizeLine_eq->tj,sliceBounds->tm,isSubtype_tuple_tuple->uc,wpAny_eqBool_int->ug,wpAny_updateSeq_pair->uq,behindInMarks->uz,wpAny_onRaise->u9,call_meets->vc,wpAny_execs_nil->ve,letOwnedTupleGo->vf,codeAny->vg,evalArgs_none->vh,seqItems?->vp,wpAny_letOwnedTupleGo_items->vw,pyNext->wd,wpAny_Call_Name_kw->wj,tupleKind_room_in1->wm,wpAny_pyIter_tuple->wo,wpAny_tupleItemsOf->wq,firstArgMember->xf,wpAny_newTuple->xg,wpAny_fieldsOf->xj,wpAny_comprehension_free->xm,wpAny_pyIter_list->xn,IsPair->xp,wpAny_dictEntries->xr,holding->ya,wpAny_pyNext_tuple_item->yb,getItem->yd,wpAny_of_eq->ye,noFill_tuple_add->yn,wpAny_forIn_list->yt,wpAny_pyNext_tuple_end->yz,wpAny_pyIter_tupleiter->y3,wpAny_Assign_Subscript->y8,richCompare_meets_room->y9,backTo->zc,wpAny_isTrue_Compare1->zd,rawInt->ze,wpAny_typeOf->zi,pushCells_keeps->zm,wpAny_dictEpoch->zz,bindArgs->Af,isInstance->Ag,codeAny_call_builtin->Ak,unbindBehindTheSuite->Ao,wpAny_pyIter_revIter->Ap,wpAny_bindName->Ar,newFunctionEnv->As,wpAny_setField->Ax,standAt->Az,subscripted->AE,tupleKind->AQ,swapsWith->AR,assignInOrder->AS,seq_tuple_add->AU,seqIndex?->AW,IsItemIterOut->A1,builtinsNs->A4,BindsTo->A5,callerA->A6,valueAt->A7,relabel->A8,reduceHash->A9,assign->Bc,pyIter->Bd,concat_meets->Be,seqIndex_neg->Bg,bindName->Br,Result->Bs,seqIndex_of->Bu,pushCells->Bv,updateSeq->By,eqIsQuiet->Bz
open List renaming getElem?_eq_getElem->ah,length_map->ai,getD_eq_getElem?_getD->aj,length_append->ao,mem_cons_of_mem->ar,getElem?_eq_some_iff->au,size_toArray->av,range->aw,getElem?_map->az,mem_singleton->bb,mem_map->bj,replicate->bp,length_cons->bq,map_append->bu,mem_cons->b6,mem_cons_self->b7,map_cons->b8,mem_append->b9,mem_of_getElem?->cb,mem_range->cf,mem_append_left->ck,getElem?_append_left->cm,length_range->cz,nodup_cons->de,length_set->dg,getElem?_append_right->dh,mem_append_right->dk,mem_filter->du,getElem_mem->dz,map_congr_left->fe,length_take->fg,cons_append->fh,map_map->fj,replicate_succ->gj,nil_append->gm,lookup_cons->gq,flatMap_cons->gu,getElem?_set_ne->gv,getElem?_set_self->gw,getElem_of_mem->iq,toArray->ir,nodup_range->iu,append_assoc->iy,take_add_one->iz,forIn_cons->i9,all_eq_true->ja,mem_flatMap->jc,find?_cons->jl,pairwise_cons->jm,getElem_map->jq,take_of_length_le->jr,length_filter_le->j3,mem_iff_getElem?->j4,sum_cons->j8,forIn_nil->j9,nodup_nil->kd,append_nil->ke,range_succ_eq_map->kn,perm_ext_iff_of_nodup->kr,nodup_iff_pairwise_ne->ku,length_drop->k6,take_length->k7,pairwise_iff_getElem->md,flatten_cons->mh,nodup_append->mw,getElem?_replicate->my,getElem?_cons_zero->nh,any_eq_true->ny,map_inj_right->og,length_replicate->oh,length_singleton->oo,range_succ->ot,mem_of_mem_drop->o8,flatMap_append->qa,map_nil->qi,all_cons->qt,length_nil->qw,length_eq_zero_iff->qy,zip_cons_cons->rb,filter_append->rh,eraseIdxIfInBounds_toArray->tq,any_eq_false->t8,pairwise_map->t9,ext_getElem->ui,flatMap_map->uk,mem_of_mem_take->uv,any_cons->u4,filterMap_cons->vd,length_pos_iff->vm,getElem?_range->vy,mem_filterMap->wg,getElem_range->w8,pairwise_singleton->yk,getElem_inj->ym,not_mem_nil->yr,countP_cons->yv,mem_reverse->yy,pairwise_lt_range->zb,of_mem_zip->zg,foldl_cons->zk,countP_mono_left->Aa,isPerm_iff->Ae,drop_zero->Au,length->AB,flatten_append->AM,reverse_append->AO,map_take->AX,all_map->Bh
open PySem.Heap renaming get?_push_of_some->ak,get?_push_size->bg,lt_size->br,get?_update_other->ig,SameBut->je,size_push->ji,get?_update_self->jx,get?_update_ne->qe,get?_push_cases->ur,size_update->yq,FlyingW->Bn,ExtBut->Bx
open Nat renaming le_refl->ay,zero_le->bc,le_trans->cg,lt_of_le_of_lt->cw,lt_of_lt_of_le->cy,ne_of_lt->df,lt_irrefl->j7,le_of_lt->la,lt_succ_self->nr,le_add_right->nv,le_succ->om,sub_self->qm,lt_succ_of_lt->tu,pow_le_pow_right->uw,ne_of_gt->wc,le_of_succ_le->xl,not_lt_zero->zo,min_eq_left->zp,add_le_add_left->AH,gcd->AL,sub_zero->Bi,min_comm->Bo,max_comm->Bp
open Bool renaming false_ne_true->bh,false_eq_true->dq,and_eq_true->dv,not_true->lh,false_and->ua,and_eq_true_iff->uo,true_and->vb,not_eq_true->yw
open Int renaming toNat_natCast->cx,zero_add->fw,mul_assoc->i7,le_refl->nc,le_of_lt->ue,mul_comm->uf,mul_le_mul_of_nonneg_left->uj,mul_ediv_cancel->vz,le_antisymm->v5,fdiv_eq_ediv_of_nonneg->v8,mul_ediv_cancel_left->xu,eq_ofNat_of_zero_le->yf,emod_nonneg->zx,natCast_add->Ad,mul_one->AA,gcd->AN,ediv_one->Bf,mul_zero->Bq
open Option.some renaming inj->da,injEq->t4
open PySem.PassesOwn renaming never->dm
open PySem.Builtin.SmallTypes renaming nextOf->dw,ownedTupleIsFree->jd,ownedTupleHandOut->ph
open Array renaming getD_eq_getD_getElem?->dy,getElem?_eq_getElem->fq,length_toList->gf,getElem?_toList->oq,perm_iff_toList_perm->o7,getElem?_eq_none->su,forIn_toList->wu,getElem_mem->xt,getElem_toList->Aq,toList->Bb
open Classical renaming byContradiction->ez,propDecidable->gk
open PySem.SeqAt renaming EqAt->ff,in_tupleAt->yo,in_listAt->zj
open PySem.Builtin.Tuple renaming tupleHashOf->fo,tupleExact->mf,tupleItemsOf->o6
open PySem.Obj renaming mapSeq->fv
open Option renaming isSome_iff_exists->f6,map_eq_some_iff->ip
open PyProof.Rows renaming slot_tuple_getitem->f7,callWith_type1->jk,seqObj->jo,listUpdate_at->u6,assignInOrder_cons->wa,AllBare->w9,subscriptTail_builtinR->y4,envOfC->zh,listItems_at->zq,get?_update_seq->zr,entry_list_sort->zu,slot_list_sort->Av,args_list_sort->Aw,entry_tuple_getitem->AD,mirror_size->AI,tuples'->AJ,seqEpoch_at->AK,subscriptTail->AV,sortedAll->AY,sortedAll_old->AZ,failedOf->A3,sortedHeap->Ba,plain_sorted->Bj,entry_sorted->Bk,args_sorted1->Bl,sortedAll_at->Bm,kind_sorted->Bw
open PySem.F renaming plainAttrs_list->i6,slot_dict_itemiterator_next->jb,slot_tuple_iterator_next->kq,plain_min_loop->k8,plain_max_loop->k9,slot_list_append->mr,type_list_append->mv,args_tuple_add_2->qh,entry_tuple_add->qq,slot_tuple_add->sr,slot_tuple_hash->t6,args_dict_itemiterator_next_1->t7,entry_dict_itemiterator_next->ud,args_tuple_iterator_next_1->u7,entry_tuple_iterator_next->vo,slot_zip_next->vt,slot_tuple_eq->vv,slot_dict_getitem->xc,slot_dict_items->xq,entry_min_loop->yu,entry_max_loop->yx,slot_dict_items_iter->za,slot_list_pop->Ab,type_list_pop->Ac,args_list_extend_2->Aj,excBase_ValueError->Al,entry_list_extend->AG
open PySem.Builtin.List renaming listTooLong->jf,listExtendWith->vn,listUpdate->yj
open PySem.AutoSeq1 renaming wpAny_loadPart'->jg,sub_tuple_tuple->qj
open Ne renaming symm->jh
open PySem.Around renaming under_plainId->j6
open PySem.Builtin.Builtins renaming bindParams->ki
open False renaming elim->kx
open PySem.Builtin.Slice renaming slicePlaces->l7,sliceAdjust->pb,sliceApplied->v9
open PySem.Calls renaming callWith_builtin->n5,call_function_entry->pf,Name_function_global->v7,evalArgs_plain->Ai
open PySem.Builtin.Dict_items renaming ownsTuple->n9,ownedTupleFields->qc,ownedTupleIsFree->qd,pairFromOwner->rm
open PySem.Str renaming ofString->oi
open PySem.PyData renaming hasDict->pg,hasDictAll->xo,depthAll->zv
open PySem.Builtin.Int renaming intBits->qf
open PySem.Paired renaming length->qo
open PySem.SeqAt.EqAt renaming int_int->qr
open ToString renaming toString->ra
open Array.Perm renaming refl->rf
open Prod renaming fst->ub,ext->yc,snd->Ah
open PySem.Heap.SameBut renaming update->vq
open List.cons renaming injEq->vx
open Prod.mk renaming inj->v3
open List.Perm renaming eq_of_pairwise->xw
open Sum.inl renaming inj->xx
open MonadExcept renaming tryCatch->yg
open PySem.Builtin renaming sorted->yp
open PySem.Builtin.Dict renaming showsAll->zy
open LawfulBEq renaming eq_of_beq->Bt
namespace L2
open PySem PySem.Spec PyProof.Rows
abbrev Key:=Sum Int Str
def zM:Key->Value->Bool
 | .inl k,v=>Value.isInt k v
 | .inr x,v=>Value.isStrOf x v
def aLn (w:World):Key->Int
 | .inl k=>hashInt k
 | .inr x=>hashStr w x
theorem cE:∀{k:Key}{v:Value},zM k v=true->(∃i t,k=Sum.inl i/\v=Value.int i t)\/(∃x t,k=Sum.inr x/\v=Value.str x t)
 | .inl i,v,h=>by
  obtain⟨t,e⟩:=Value.isInt_shape (k:=i) (v:=v) h
  exact .inl ⟨i,t,rfl,e⟩
 | .inr x,v,h=>by
  obtain⟨t,e⟩:=Value.isStrOf_shape (x:=x) (v:=v) h
  exact .inr ⟨x,t,rfl,e⟩
theorem aBm (i:Int)(t:Tok):zM (.inl i) (.int i t)=true:=by simp[zM,Value.isInt]
theorem aCG (x:Str)(t:Tok):zM (.inr x) (.str x t)=true:=by simp[zM,Value.isStrOf]
theorem aII (a b:Int):decide ((Sum.inl a:Key)=Sum.inl b)=(a == b):=by
 by_cases e:a=b
 ·subst e;simp
 ·have h:¬ (Sum.inl a:Key)=Sum.inl b:=λq=>e (xx q)
  rw[decide_eq_false h]
  exact(beq_eq_false_iff_ne.mpr e).symm
theorem aHB (a b:Str):decide ((Sum.inr a:Key)=Sum.inr b)=decide (a=b):=by
 by_cases e:a=b
 ·subst e;simp
 ·have h:¬ (Sum.inr a:Key)=Sum.inr b:=λq=>e (Sum.inr.inj q)
  rw[decide_eq_false h,decide_eq_false e]
theorem aIo (a:Int)(b:Str):decide ((Sum.inl a:Key)=Sum.inr b)=false:=decide_eq_false (λq=>nomatch q)
theorem aHv (a:Str)(b:Int):decide ((Sum.inr a:Key)=Sum.inl b)=false:=decide_eq_false (λq=>nomatch q)
def cI (prog:Program) (w:World):PySem.KeyKind prog w Key where
 is:=zM
 hash:=aLn w
 inj:=λv a b ha hb=>by
  rcases cE ha with⟨i,t,rfl,rfl⟩ | ⟨x,t,rfl,rfl⟩
  ·rcases cE hb with⟨j,u,rfl,e⟩ | ⟨y,u,rfl,e⟩
   ·injection e with e1 _;rw[e1]
   ·exact nomatch e
  ·rcases cE hb with⟨j,u,rfl,e⟩ | ⟨y,u,rfl,e⟩
   ·exact nomatch e
   ·injection e with e1 _;rw[e1]
 byValue:=λk v h=>by
  rcases cE h with⟨i,t,rfl,rfl⟩ | ⟨x,t,rfl,rfl⟩ <;> rfl
 pyHash:=λhv h=>by
  rcases cE hv with⟨i,t,rfl,rfl⟩ | ⟨x,t,rfl,rfl⟩
  ·exact wpAny_pyHash_int h
  ·exact wpAny_pyHash_str h
 eqBool:=λhu hv h=>by
  rcases cE hu with⟨i,t,rfl,rfl⟩ | ⟨x,t,rfl,rfl⟩
  ·rcases cE hv with⟨j,u,rfl,rfl⟩ | ⟨y,u,rfl,rfl⟩
   ·rw[aII] at h;exact ug h
   ·rw[aIo] at h;exact SeqAt.EqAt.int_str i t y u _ _ _ _ h
  ·rcases cE hv with⟨j,u,rfl,rfl⟩ | ⟨y,u,rfl,rfl⟩
   ·rw[aHv] at h;exact SeqAt.EqAt.str_int x t j u _ _ _ _ h
   ·rw[aHB] at h;exact wpAny_eqBool_str h
 «strs»:=λk x t v h=>by
  rcases cE h with⟨i,u,rfl,e⟩ | ⟨y,u,rfl,e⟩
  ·exact nomatch e
  ·injection e with e1 _
   subst e1
   cases v <;> rfl
theorem wI (prog:Program)(w:World)(i:Int)(t:Tok):(cI prog w).is (.inl i) (.int i t)=true:=aBm i t
theorem wA (prog:Program)(w:World)(x:Str)(t:Tok):(cI prog w).is (.inr x) (.str x t)=true:=aCG x t
inductive V where
 |non | bl (b:Bool) | int (i:Int) | str (x:Str) | byt (b:Array UInt8) | flt (b:UInt64) | ref (a:Addr) | ty (n:String)
 deriving DecidableEq
def RelV:V->Value->Prop
 | .non,u=>u=Value.none
 | .bl b,u=>u=Value.bool b
 | .int i,u=>∃t,u=Value.int i t
 | .str x,u=>∃t,u=Value.str x t
 | .byt b,u=>∃t,u=Value.bytes b t
 | .flt b,u=>∃t,u=Value.float b t
 | .ref a,u=>u=Value.ref a
 | .ty n,u=>u=Value.type n
abbrev Vals:List V->List Value->Prop:=Paired RelV
theorem Vals.length {xs:List V}{us:List Value}(r:Vals xs us):xs.length=us.length:=qo r
theorem Vals.get:∀{xs:List V}{us:List Value}{i:Nat}{x:V},Vals xs us->xs[i]?=some x->∃u,us[i]?=some u/\RelV x u
 |_,_,_,_, .nil,e=>by simp at e
 |_,_,0,_, .cons r _,e=>by simp at e;subst e;exact⟨_,rfl,r⟩
 |_,_,i+1,x, .cons _ t,e=>by
  obtain⟨u,h1,h2⟩:=Vals.get (i:=i) (x:=x) t (by simpa using e)
  exact⟨u,by simpa using h1,h2⟩
theorem Vals.set {x:V}{u:Value}(r:RelV x u):∀{xs:List V}{us:List Value} (i:Nat),Vals xs us->Vals (xs.set i x) (us.set i u)
 |_,_,_, .nil => .nil
 |_,_,0, .cons _ t => .cons r t
 |_,_,i+1, .cons q t => .cons q (Vals.set r i t)
theorem Vals.append:∀{xs ys:List V}{us ws:List Value},Vals xs us->Vals ys ws->Vals (xs++ys) (us++ws)
 |_,_,_,_, .nil,s=>s
 |_,_,_,_, .cons r t,s => .cons r (Vals.append t s)
theorem Vals.take:∀{xs:List V}{us:List Value} (n:Nat),Vals xs us->Vals (xs.take n) (us.take n)
 |_,_,0,_ => .nil
 |_,_,_+1, .nil => .nil
 |_,_,n+1, .cons r t => .cons r (Vals.take n t)
theorem Vals.drop:∀{xs:List V}{us:List Value} (n:Nat),Vals xs us->Vals (xs.drop n) (us.drop n)
 |_,_,0,r=>r
 |_,_,_+1, .nil => .nil
 |_,_,n+1, .cons _ t=>Vals.drop n t
def RelO:Option V->Option Value->Prop
 |some v,some u=>RelV v u
 |none,none=>True
 |_,_=>False
def KV {κ:Type}:List (κ×V)->List (κ×Value)->Prop:=Paired λ(p:κ×V) (q:κ×Value)=>p.1=q.1/\RelV p.2 q.2
def kV:Key->V
 | .inl i => .int i
 | .inr x => .str x
inductive HO where
 |lst (xs:List V)
 |tup (xs:List V)
 |dK (kvs:List (Key×V)) | dT (kvs:List (List Key×V))
 |set (S:Int->Bool) (n:Nat)
 |ins (C dx:Addr) (fs:List (Str×V))
 |own (x:Addr)
 |xd (fs:List (Str×V))
 |met (f x:Addr)
 |rng (lo hi:Int)
 |frz (o:Obj) (u:HO)
 |tbl (ps:Array Value)
 |ext (φ:Heap->Prop)
abbrev Hp:=Addr->Option HO
def upd (H:Hp) (a:Addr) (o:HO):Hp:=λb=>if b=a then some o else H b
theorem aD {H:Hp}{a:Addr}{o:HO}:upd H a o a=some o:=by unfold upd;rw[if_pos rfl]
theorem aL {H:Hp}{a b:Addr}{o:HO}(h:b≠a):upd H a o b=H b:=by unfold upd;rw[if_neg h]
theorem ne_of {H:Hp}{a b:Addr}{o u:HO}(h:H a=some o)(h':H b=some u)(d:o≠u):a≠b:=by
 intro e;subst e;rw[h] at h';exact d (da h')
theorem aK {H:Hp}{a b:Addr}{o:HO}(h:H a=some o)(h':H b=none):a≠b:=by
 intro e;subst e;rw[h] at h';cases h'
def TupN (h:Heap) (a:Addr) (items:Array Value):Prop:=∃o,h.get? a=some o/\o.cls = .type "tuple"/\(∃n,o.data = .seq items n)/\o.dict=none
theorem TupN.tup {h:Heap}{a:Addr}{items:Array Value}(p:TupN h a items):IsTup h a items:=let⟨o,e,c,n,_⟩:=p;⟨o,e,c,n⟩
theorem TupN.new (h:Heap)(items:Array Value):TupN (h.push { cls := .type "tuple",data := .seq items }) h.objs.size items:=⟨_,bg _ rfl,rfl,⟨_,rfl⟩,rfl⟩
section
variable (P:Program)(w:World)
def ObjOk (H:Hp) (h:Heap) (a:Addr):HO->Prop
 | .lst xs=>xs.length<=ba/\∃(its:List Value) (n:Nat),Vals xs its/\h.get? a=some { cls := .type "list",data := .seq its.toArray n }
 | .tup xs=>xs.length<=ba/\∃its:List Value,Vals xs its/\TupN h a its.toArray
 | .dK kvs=>kvs.length<=ba/\(a == jt)=false/\∃vs,KV kvs vs/\h.DictOf (cI P w) a vs
 | .dT kvs=>kvs.length<=ba/\(a == jt)=false/\∃xs:List (List Key×Addr×Value),
   Paired (λ(p:List Key×V) (q:List Key×Addr×Value)=>p.1=q.1/\H q.2.1=some (.tup (p.1.map kV))/\RelV p.2 q.2.2) kvs xs /\
   ∃o es ep,h.get? a=some o/\o.ExactDict/\o.data = .dict es ep/\es.toList=xs.map (entryOfKey (AQ (cI P w)))/\(xs.map (·.1)).Nodup
 | .set S n=>h.SetOf (ly P w) a S n
 | .ins C dx fs=>H dx=some (.own a)/\fs.length<=1000/\dx≠a/\h.get? a=some (PySem.W.instObj C dx) /\
   ∃mA,h.Ns1 dx mA/\(∀f,RelO (fs.lookup f) (mA f))/\PySem.Within mA (fs.map (·.1))
 | .own _=>∃o,h.get? a=some o
 | .xd fs=>∃mA,h.Ns1 a mA/\∀f,RelO (fs.lookup f) (mA f)
 | .rng lo hi=>∃t u v,h.get? a=some { cls := .type "range",data := .fields #[.int lo t, .int hi u, .int 1 v] }
 | .frz o u=>h.get? a=some o/\ObjOk H h a u
 | .tbl ps=>h.get? a=some { cls := .none,data := .fields ps }
 | .met f x=>h.get? a=some (xk (.ref f) (.ref x))
 | .ext φ=>φ h/\(∃o,h.get? a=some o)/\∀h1 h2:Heap,φ h1->(∀o,h1.get? a=some o->h2.get? a=some o)->φ h2
def HOk (H:Hp) (h:Heap):Prop:=∀a o,H a=some o->ObjOk P w H h a o
end
section
variable {P:Program}{w:World}{H H':Hp}{h h':Heap}{a:Addr}{o:HO}
theorem ObjOk.lt (x:ObjOk P w H h a o):a<h.objs.size:=by
 cases o with
 |lst xs=>obtain⟨_,_,_,_,e⟩:=x;exact br e
 |tup xs=>obtain⟨_,_,_,p⟩:=x;exact p.tup.lt
 |dK kvs=>obtain⟨_,_,_,_,o,_,_,e,_⟩:=x;exact br e
 |dT kvs=>obtain⟨_,_,_,_,o,_,_,e,_⟩:=x;exact br e
 |set S n=>obtain⟨o,_,_,_,e,_⟩:=x;exact br e
 |ins C dx fs=>obtain⟨_,_,_,e,_⟩:=x;exact br e
 |own y=>obtain⟨_,e⟩:=x;exact br e
 |xd fs=>obtain⟨_,⟨_,_,_,e,_⟩,_⟩:=x;exact br e
 |rng lo hi=>obtain⟨_,_,_,e⟩:=x;exact br e
 |frz ob u=>obtain⟨e,_⟩:=x;exact br e
 |tbl ps=>exact br (show h.get? a=some _ from x)
 |met f y=>exact br (show h.get? a=some _ from x)
 |ext φ=>obtain⟨_,⟨_,e⟩,_⟩:=x;exact br e
theorem Paired.mapP {α β:Type}{F G:α->β->Prop}:∀{l₁:List α}{l₂:List β},Paired F l₁ l₂->(∀a b,F a b->G a b)->Paired G l₁ l₂
 |_,_, .nil,_ => .nil
 |_,_, .cons r t,f => .cons (f _ _ r) (Paired.mapP t f)
theorem ObjOk.stay (x:ObjOk P w H h a o)(k:∀b u,(b=a\/H b=some (.own a))->h.get? b=some u->h'.get? b=some u)
  (ho:∀b,H b=some (.own a)->H' b=some (.own a)) (ht:∀b xs,H b=some (.tup xs)->H' b=some (.tup xs)):ObjOk P w H' h' a o:=by
 induction o with
 |lst xs=>obtain⟨z,its,n,r,e⟩:=x;exact⟨z,its,n,r,k _ _ (.inl rfl) e⟩
 |tup xs=>obtain⟨z,its,r,ob,e,c⟩:=x;exact⟨z,its,r,ob,k _ _ (.inl rfl) e,c⟩
 |dK kvs=>obtain⟨z,y,vs,r,ob,es,ep,e,c⟩:=x;exact⟨z,y,vs,r,ob,es,ep,k _ _ (.inl rfl) e,c⟩
 |dT kvs=>
  obtain⟨z,y,xs,r,ob,es,ep,e,c⟩:=x
  exact⟨z,y,xs,Paired.mapP r λp q z=>⟨z.1,ht _ _ z.2.1,z.2.2⟩,ob,es,ep,k _ _ (.inl rfl) e,c⟩
 |set S n=>obtain⟨ob,es,ep,t,e,c⟩:=x;exact⟨ob,es,ep,t,k _ _ (.inl rfl) e,c⟩
 |ins C dx fs=>
  obtain⟨d,z,ne,e,mA,⟨od,es,ep,e2,c⟩,r⟩:=x
  exact⟨ho _ d,z,ne,k _ _ (.inl rfl) e,mA,⟨od,es,ep,k _ _ (.inr d) e2,c⟩,r⟩
 |own y=>obtain⟨ob,e⟩:=x;exact⟨ob,k _ _ (.inl rfl) e⟩
 |xd fs=>obtain⟨mA,⟨od,es,ep,e,c⟩,r⟩:=x;exact⟨mA,⟨od,es,ep,k _ _ (.inl rfl) e,c⟩,r⟩
 |rng lo hi=>obtain⟨t,u,v,e⟩:=x;exact⟨t,u,v,k _ _ (.inl rfl) e⟩
 |frz ob u ih=>obtain⟨e,q⟩:=x;exact⟨k _ _ (.inl rfl) e,ih q⟩
 |tbl ps=>
  have e:h.get? a=some { cls := .none,data := .fields ps }:=x
  show h'.get? a=some { cls := .none,data := .fields ps }
  exact k a _ (.inl rfl) e
 |met f y=>
  have e:h.get? a=some (xk (.ref f) (.ref y)):=x
  show h'.get? a=some (xk (.ref f) (.ref y))
  exact k a _ (.inl rfl) e
 |ext φ=>obtain⟨p,⟨o,e⟩,st⟩:=x;exact⟨st _ _ p λo q=>k _ _ (.inl rfl) q,⟨o,k _ _ (.inl rfl) e⟩,st⟩
theorem HOk.lt (x:HOk P w H h)(e:H a=some o):a<h.objs.size:=(x a o e).lt
theorem HOk.fresh (x:HOk P w H h)(e:h.objs.size<=a):H a=none:=by
 cases q:H a with
 |none=>rfl
 |some u=>exact absurd (cy (x.lt q) e) (j7 _)
theorem HOk.kept (x:HOk P w H h)(k:∀b u,h.get? b=some u->h'.get? b=some u):HOk P w H h':=λa o e=>
 (x a o e).stay (λb u _ q=>k b u q) (λ_ q=>q) λ_ _ q=>q
theorem HOk.laid (x:HOk P w H h)(k:∀b u,h.get? b=some u->h'.get? b=some u)(hp:h.objs.size<=a)(new:ObjOk P w (upd H a o) h' a o):HOk P w (upd H a o) h':=λb u e=>by
 have hn:=x.fresh hp
 by_cases hb:b=a
 ·subst hb;rw[aD] at e;cases e;exact new
 ·rw[aL hb] at e
  exact(x b u e).stay (λc v _ q=>k c v q) (λc q=>by rw[aL (aK q hn)];exact q) λc xs q=>by rw[aL (aK q hn)];exact q
end
def Rd (H:Hp) (a:Addr) (u:HO):Prop:=H a=some u\/∃o,H a=some (.frz o u)
theorem Rd.ok {P:Program}{w:World}{H:Hp}{h:Heap}{a:Addr}{u:HO}(r:Rd H a u)(x:HOk P w H h):ObjOk P w H h a u:=by
 rcases r with r | ⟨o,r⟩
 ·exact x a u r
 ·obtain⟨_,q⟩:=x a _ r
  exact q
def Mut:Option HO->Prop
 |some (.lst _)=>True
 |some (.dK _)=>True
 |some (.dT _)=>True
 |some (.set _ _)=>True
 |some (.ins _ _ _)=>True
 |some (.ext _)=>True
 |_=>False
section
variable {P:Program}{w:World}{H:Hp}{h h':Heap}{x e:Addr}{o':HO}
theorem HOk.write (ok:HOk P w H h)(mu:Mut (H x))(he:e=x\/H e=some (.own x))(k:∀b u,b≠e->h.get? b=some u->h'.get? b=some u)(heo:∃u,h'.get? e=some u)
  (new:ObjOk P w (upd H x o') h' x o'):HOk P w (upd H x o') h':=λb u q=>by
 have nown:∀c y,H c=some (.own y)->c≠x:=λc y r z=>by subst z;rw[r] at mu;exact mu
 have ntup:∀c xs,H c=some (.tup xs)->c≠x:=λc xs r z=>by subst z;rw[r] at mu;exact mu
 by_cases hb:b=x
 ·subst hb;rw[aD] at q;cases q;exact new
 ·rw[aL hb] at q
  by_cases hbe:b=e
  ·have q':H b=some (.own x):=by
    rcases he with z | z
    ·exact absurd (hbe.trans z) hb
    ·rw[hbe];exact z
   rw[q] at q';cases q'
   obtain⟨v,hv⟩:=heo
   exact⟨v,by rw[hbe];exact hv⟩
  ·refine(ok b u q).stay (λc v hc r=>k c v ?_ r) (λc r=>by rw[aL (nown c b r)];exact r) λc xs r=>by rw[aL (ntup c xs r)];exact r
   rcases hc with rfl | hc
   ·exact hbe
   ·rintro rfl
    rcases he with z | z
    ·exact nown c b hc z
    ·rw[hc] at z;cases z;exact hb rfl
end
structure Un (fs ex:List Addr)(H H':Hp)(h h':Heap):Prop where
 keep:∀b o,h.get? b=some o->H b=none->b∉fs->b∉ex->h'.get? b=some o
 slot:∀b o,h.get? b=some o->H b=none->b∈fs->b∉ex->∃sl,h'.get? b=some { o with slots:=sl }
 free:∀b o,h.get? b=some o->H b=none->b∉ex->H' b=none
 there:∀b o,h.get? b=some o->b∉ex->∃o',h'.get? b=some o'
 tups:∀b xs,H b=some (.tup xs)->H' b=some (.tup xs)
 frzs:∀b o u,H b=some (.frz o u)->H' b=some (.frz o u)
 tbls:∀b ps,H b=some (.tbl ps)->∃more,H' b=some (.tbl (ps++more))
section
variable {fs fs' ex ex':List Addr}{H H1 H2:Hp}{h h1 h2 h':Heap}{a x e:Addr}{o:HO}
theorem Un.any (u:Un fs ex H H1 h h1){b:Addr}{ob:Obj}(q:h.get? b=some ob)(n:H b=none)(hx:b∉ex):∃sl,h1.get? b=some { ob with slots:=sl }:=by
 by_cases hb:b∈fs
 ·exact u.slot b ob q n hb hx
 ·exact⟨ob.slots,u.keep b ob q n hb hx⟩
theorem Un.trans (a:Un fs ex H H1 h h1)(b:Un fs ex H1 H2 h1 h2):Un fs ex H H2 h h2 where
 keep:=λc ob q n hc hx=>b.keep c ob (a.keep c ob q n hc hx) (a.free c ob q n hx) hc hx
 slot:=λc ob q n hc hx=>by
  obtain⟨sl,e1⟩:=a.slot c ob q n hc hx
  obtain⟨sl',e2⟩:=b.slot c _ e1 (a.free c ob q n hx) hc hx
  exact⟨sl',e2⟩
 free:=λc ob q n hx=>by
  obtain⟨o',e1⟩:=a.there c ob q hx
  exact b.free c o' e1 (a.free c ob q n hx) hx
 there:=λc ob q hx=>by
  obtain⟨o',e1⟩:=a.there c ob q hx
  exact b.there c o' e1 hx
 tups:=λc xs q=>b.tups c xs (a.tups c xs q)
 frzs:=λc ob xs q=>b.frzs c ob xs (a.frzs c ob xs q)
 tbls:=λc ps q=>by
  obtain⟨m1,e1⟩:=a.tbls c ps q
  obtain⟨m2,e2⟩:=b.tbls c _ e1
  exact⟨m1++m2,by rw[e2,Array.append_assoc]⟩
theorem Un.kept (k:∀b u,h.get? b=some u->h'.get? b=some u):Un fs ex H H h h':=
 ⟨λb ob q _ _ _=>k b ob q,λb ob q _ _ _=>⟨ob.slots,k b ob q⟩,λ_ _ _ n _=>n,λb ob q _=>⟨ob,k b ob q⟩,λ_ _ q=>q,λ_ _ _ q=>q,λ_ ps q=>⟨#[],by rw[q];simp⟩⟩
theorem Un.refl:Un fs ex H H h h:=Un.kept λ_ _ q=>q
theorem Un.laid (k:∀b u,h.get? b=some u->h'.get? b=some u)(hp:h.objs.size<=a)(hn:H a=none):Un fs ex H (upd H a o) h h' where
 keep:=λb u q _ _ _=>k b u q
 slot:=λb u q _ _ _=>⟨u.slots,k b u q⟩
 free:=λb u q n _=>by rw[aL (df (cy (br q) hp))];exact n
 there:=λb u q _=>⟨u,k b u q⟩
 tups:=λb xs q=>by rw[aL (aK q hn)];exact q
 frzs:=λb u xs q=>by rw[aL (aK q hn)];exact q
 tbls:=λb ps q=>⟨#[],by rw[aL (aK q hn),q];simp⟩
theorem Un.write (mu:Mut (H x))(he:e=x\/H e=some (.own x))(k:∀b u,b≠e->h.get? b=some u->h'.get? b=some u)(heo:∃u,h'.get? e=some u):Un fs ex H (upd H x o) h h':=by
 have hx:∀b,H b=none->b≠x:=λb n z=>by subst z;rw[n] at mu;exact mu
 have hb:∀b,H b=none->b≠e:=λb n z=>by
  subst z
  rcases he with r | r
  ·exact hx b n r
  ·rw[n] at r;cases r
 have hm:∀b u,H b=some u->¬ Mut (some u)->b≠x:=λb u q nm z=>by subst z;rw[q] at mu;exact nm mu
 refine⟨λb u q n _ _=>k b u (hb b n) q,λb u q n _ _=>⟨u.slots,k b u (hb b n) q⟩,λb u q n _=>by rw[aL (hx b n)];exact n,λb u q _=>?_,
  λb xs q=>by rw[aL (hm b _ q λz=>z)];exact q,λb u xs q=>by rw[aL (hm b _ q λz=>z)];exact q,λb ps q=>⟨#[],by rw[aL (hm b _ q λz=>z),q];simp⟩⟩
 by_cases hbe:b=e
 ·subst hbe;exact heo
 ·exact⟨u,k b u hbe q⟩
end
def trk (h:Heap) (H:Hp):List Addr:=(aw h.objs.size).filter λa=>(H a).isSome
def aDv (h:Heap) (H:Hp):Heap:=PySem.W.hideAll h (trk h H)
theorem aBj (h:Heap)(H:Hp):(aDv h H).objs.size=h.objs.size:=PySem.W.hideAll_size _ _
theorem aEb {h:Heap}{H:Hp}{b:Addr}{o:Obj}(e:h.get? b=some o)(n:H b=none):(aDv h H).get? b=some o:=
 Ay _ e λhm=>by
  have q:(H b).isSome=true:=(du.mp hm).2
  rw[n] at q;simp at q
theorem aGh {h:Heap}{H:Hp}{b:Addr}{o:Obj}(e:(aDv h H).get? b=some o):h.get? b=some o/\H b=none:=by
 have e':h.get? b=some o:=PySem.W.of_hideAll (trk h H) e
 refine⟨e',?_⟩
 cases q:H b with
 |none=>rfl
 |some x=>
  have hm:b∈trk h H:=du.mpr ⟨cf.mpr (br e'),by simp[q]⟩
  have z:(aDv h H).get? b=none:=PySem.W.hideAll_none (trk h H) hm
  rw[z] at e;cases e
def aGx (g h:Heap) (L:Addr):List (Addr×Obj):=(aw h.objs.size).filterMap λa=>if a=L\/(g.get? a).isSome=true then none else(h.get? a).map λo=>(a,o)
def rest (g h:Heap) (L d:Addr):List (Addr×Obj):=(aGx g h L).filter λp=>decide (p.1≠d)
structure Mod (K:aa)(mg:Str->Option Value)(base:Heap):Prop where
 kin:K.In base
 glob:base.Ns cp mg
 blt:∃mb,base.Ns A4 mb/\∀x:Str,x≠"__name__"->mb x=ei x
 nolimit:base.NoLimit
structure Cx where
 prog:Program
 w:World
 K:aa
 mg:Str->Option Value
 base:Heap
 A:Around
 N:List Str
 s₀:Shared
 H₀:Hp
 env:Env
 outer:List Env
 stack:List Env
 ex:List Addr
 fn:Str->Bool
 calm:Bool
 pn:List (Addr×Obj)
 xe:Value->Shared->Prop
def frs (l:List Env):List Addr:=l.filterMap (·.frame)
abbrev Cx.fs (X:Cx):List Addr:=frs X.outer
def Vis (sc:Scope) (x:Str):Prop:=sc.names.lookup x=some .local\/sc.names.lookup x=some .cell\/sc.names.lookup x=some .free
def Loc (sc:Scope) (x:Str):Prop:=sc.names.lookup x=some .local\/sc.names.lookup x=some .cell
def Look (env:Env) (h:Heap) (m:Str->Option Value) (x:Str) (u:Value):Prop:=
 (env.kindOf x=some .local/\m x=some u)\/((env.kindOf x=some .cell\/env.kindOf x=some .free)/\∃c,env.cells.lookup x=some c/\h.IsCell c (some u))
structure Cx.Ok (X:Cx):Prop where
 mod:Mod X.K X.mg X.base
 kind:X.env.scope.kind = .function
 glob:X.env.globals=cp
 blt:X.env.builtins=A4
 above:X.s₀.heap.objs.size<=X.env.locals
 inj:∀x y c,X.env.cells.lookup x=some c->X.env.cells.lookup y=some c->x=y
 has:∀x,(X.env.kindOf x=some .cell\/X.env.kindOf x=some .free)->∃c,X.env.cells.lookup x=some c
 cab:∀x c,X.fn x=true->X.env.cells.lookup x=some c->X.s₀.heap.objs.size<=c
 hd:X.calm=true->X.A.handled=none
 frames:X.A.frames=some X.stack
 stk:X.stack=X.outer\/(X.stack=X.env :: X.outer/\X.env.frame=some X.env.locals)
 exf:∀b∈X.ex,b≠X.env.locals/\∀x c,X.env.cells.lookup x=some c->c≠b
 bs:∀b o,X.base.get? b=some o->X.s₀.heap.get? b=some o/\X.H₀ b=none
 bsz:X.base.objs.size<=X.s₀.heap.objs.size
 noex:∀b o,X.base.get? b=some o->b∉X.ex
 exfs:∀b∈X.ex,b∉X.fs
 funs:X.s₀.heap.FunFrames X.base X.outer
 frf:∀b∈X.fs,X.H₀ b=none
structure Inv (X:Cx)(pins:List (Addr×Obj))(σ:List (Option V))(H:Hp)(s:Shared):Prop where
 ok:X.Ok
 os:s.os=X.s₀.os
 bare:w9 s.gens
 base:Un X.fs X.ex X.H₀ H X.s₀.heap s.heap
 loc:∃m,s.heap.Ns X.env.locals m/\∀(i:Nat) (x:Str) (v:V),X.N[i]?=some x->σ[i]?=some (some v)->Vis X.env.scope x->∃u,RelV v u/\Look X.env s.heap m x u
 cell:∀x c,X.env.cells.lookup x=some c->∃v,s.heap.IsCell c v
 free:H X.env.locals=none
 freeC:∀x c,X.env.cells.lookup x=some c->H c=none
 pin:∀p∈X.pn++pins,s.heap.get? p.1=some p.2/\H p.1=none/\p.1≠X.env.locals/\p.1∉X.fs/\∀v,p.2.data ≠ .cell v
 hok:HOk X.prog X.w H s.heap
 len:σ.length=X.N.length
section
variable {X:Cx}{pins:List (Addr×Obj)}{σ:List (Option V)}{H H':Hp}{s:Shared}{h':Heap}
theorem Cx.Ok.nofr (ok:X.Ok){b:Addr}{o:Obj}(e:X.base.get? b=some o):b∉X.fs:=λhb=>by
 have:=(ok.funs.mem hb).1
 rw[e] at this;cases this
theorem Inv.bs (I:Inv X pins σ H s):∀b o,X.base.get? b=some o->s.heap.get? b=some o/\H b=none:=λb o e=>
 ⟨I.base.keep b o (I.ok.bs b o e).1 (I.ok.bs b o e).2 (I.ok.nofr e) (I.ok.noex b o e),I.base.free b o (I.ok.bs b o e).1 (I.ok.bs b o e).2 (I.ok.noex b o e)⟩
theorem Inv.bk (I:Inv X pins σ H s):∀b o,X.base.get? b=some o->s.heap.get? b=some o:=λb o e=>(I.bs b o e).1
theorem Inv.mod (I:Inv X pins σ H s):Mod X.K X.mg X.base:=I.ok.mod
theorem Inv.kIn (I:Inv X pins σ H s):X.K.In s.heap:=I.ok.mod.kin.keeps I.bk
theorem Inv.lt (I:Inv X pins σ H s):X.env.locals<s.heap.objs.size:=let⟨_,hn,_⟩:=I.loc;hn.lt
theorem Inv.sz (I:Inv X pins σ H s):X.s₀.heap.objs.size<=s.heap.objs.size:=cg I.ok.above (la I.lt)
theorem Inv.nofs (I:Inv X pins σ H s){a:Addr}(h:s.heap.objs.size<=a):a∉X.fs:=λhb=>by
 obtain⟨_,o,ho,_⟩:=I.ok.funs.mem hb
 exact absurd (cy (br ho) (cg I.sz h)) (j7 _)
theorem Inv.cne (I:Inv X pins σ H s):∀x c,X.env.cells.lookup x=some c->c≠X.env.locals:=λx c e z=>by
 obtain⟨v,o,ho,hd⟩:=I.cell x c e
 obtain⟨m,⟨o',es,ep,ho',hd',_⟩,_⟩:=I.loc
 rw[z,ho'] at ho;cases ho;rw[hd'] at hd;cases hd
theorem Inv.funs (I:Inv X pins σ H s):s.heap.FunFrames X.base X.outer:=by
 have all:∀(l:List Env),(∀b∈frs l,b∈X.fs)->X.s₀.heap.FunFrames X.base l->s.heap.FunFrames X.base l:=by
  intro l
  induction l with
  |nil=>intro _ _;trivial
  |cons env r ih=>
   intro hs hl
   obtain⟨hk,⟨L,o,hf,hn,ho,hd⟩,hr⟩:=hl
   have hL:L∈X.fs:=hs L (by unfold frs;rw[vd,hf];exact b7)
   obtain⟨sl,e⟩:=I.base.slot L o ho (I.ok.frf L hL) hL λz=>I.ok.exfs L z hL
   exact⟨hk,⟨L,_,hf,hn,e,hd⟩,ih (λb hb=>hs b (by unfold frs;rw[vd,hf];exact ar _ hb)) hr⟩
 exact all X.outer (λ_ hb=>hb) I.ok.funs
theorem Inv.stack (I:Inv X pins σ H s):s.heap.FunFrames X.base X.stack:=by
 rcases I.ok.stk with e | ⟨e,hf⟩
 ·rw[e];exact I.funs
 ·rw[e]
  obtain⟨m,hn,_⟩:=I.loc
  refine .cons (by rw[I.ok.kind];decide) hf hn ?_ I.funs
  exact Heap.get?_none_of_le (cg I.ok.bsz I.ok.above)
theorem Inv.stkSub (I:Inv X pins σ H s):∀b∈frs X.stack,b∈X.env.locals :: X.fs:=λb hb=>by
 rcases I.ok.stk with e | ⟨e,hf⟩
 ·rw[e] at hb;exact ar _ hb
 ·rw[e] at hb
  unfold frs at hb
  rw[vd,hf] at hb
  exact hb
theorem Inv.stkFree (I:Inv X pins σ H s):∀b∈frs X.stack,H b=none:=λb hb=>by
 rcases b6.mp (I.stkSub b hb) with e | hb
 ·rw[e];exact I.free
 ·obtain⟨_,o,ho,_⟩:=I.ok.funs.mem hb
  exact I.base.free b o ho (I.ok.frf b hb) λz=>I.ok.exfs b z hb
theorem Inv.step {g':Array GenState}{t':Nat}{d':Drawn}{ch:List Addr}(I:Inv X pins σ H s)
  (hch:∀b∈ch,(b∈X.ex\/X.s₀.heap.objs.size<=b)/\b≠X.env.locals/\(∀x c,X.env.cells.lookup x=some c->c≠b)/\∀p∈X.pn++pins,p.1≠b)
  (keep:∀b o,b≠X.env.locals->b∉X.fs->b∉ch->s.heap.get? b=some o->H b=none->h'.get? b=some o)
  (slot:∀b o,b≠X.env.locals->b∈X.fs->b∉ch->s.heap.get? b=some o->H b=none->∃sl,h'.get? b=some { o with slots:=sl }) (free:∀b o,b∉ch->s.heap.get? b=some o->H b=none->H' b=none)
  (there:∀b o,b∉ch->s.heap.get? b=some o->∃o',h'.get? b=some o')
  (tups:∀b xs,H b=some (.tup xs)->H' b=some (.tup xs)) (frzs:∀b o u,H b=some (.frz o u)->H' b=some (.frz o u)) (tbls:∀b ps,H b=some (.tbl ps)->∃more,H' b=some (.tbl (ps++more)))
  (ns:∀m,s.heap.Ns X.env.locals m->h'.Ns X.env.locals m) (hok:HOk X.prog X.w H' h') (hg:w9 g') :
  Inv X pins σ H' { s with heap:=h',gens:=g',drawn:=d',toks:=t' }:=by
 have neL:∀b o,X.s₀.heap.get? b=some o->b≠X.env.locals:=λb o e=>df (cy (br e) I.ok.above)
 have neC:∀b o,X.s₀.heap.get? b=some o->b∉X.ex->b∉ch:=λb o e hx hb=>by
  rcases(hch b hb).1 with z | z
  ·exact hx z
  ·exact absurd (cy (br e) z) (j7 _)
 have cellK:∀x c,X.env.cells.lookup x=some c->∀v,s.heap.IsCell c v->h'.IsCell c v:=λx c e v ⟨o,ho,hd⟩=>by
  have nch:c∉ch:=λz=>(hch c z).2.2.1 x c e rfl
  by_cases hc:c∈X.fs
  ·obtain⟨sl,q⟩:=slot c o (I.cne x c e) hc nch ho (I.freeC x c e)
   exact⟨_,q,hd⟩
  ·exact⟨o,keep c o (I.cne x c e) hc nch ho (I.freeC x c e),hd⟩
 refine⟨I.ok,I.os,hg,⟨λb o e n hb hx=>?_,λb o e n hb hx=>?_,λb o e n hx=>?_,λb o e hx=>?_,λb xs e=>tups b xs (I.base.tups b xs e),λb o xs e=>frzs b o xs (I.base.frzs b o xs e),λb ps e=>?_⟩,?_,λx c e=>?_,?_,λx c e=>?_,λp hp=>?_,hok,I.len⟩
 ·exact keep b o (neL b o e) hb (neC b o e hx) (I.base.keep b o e n hb hx) (I.base.free b o e n hx)
 ·obtain⟨sl,e1⟩:=I.base.slot b o e n hb hx
  obtain⟨sl',e2⟩:=slot b _ (neL b o e) hb (neC b o e hx) e1 (I.base.free b o e n hx)
  exact⟨sl',e2⟩
 ·obtain⟨o',e1⟩:=I.base.there b o e hx
  exact free b o' (neC b o e hx) e1 (I.base.free b o e n hx)
 ·obtain⟨o',e1⟩:=I.base.there b o e hx
  exact there b o' (neC b o e hx) e1
 ·obtain⟨m1,e1⟩:=I.base.tbls b ps e
  obtain⟨m2,e2⟩:=tbls b _ e1
  exact⟨m1++m2,by rw[e2,Array.append_assoc]⟩
 ·obtain⟨m,hn,hl⟩:=I.loc
  refine⟨m,ns m hn,λi x v e1 e2 e3=>?_⟩
  obtain⟨u,r,l⟩:=hl i x v e1 e2 e3
  refine⟨u,r,?_⟩
  rcases l with l | ⟨k,c,e,z⟩
  ·exact .inl l
  ·exact .inr ⟨k,c,e,cellK x c e _ z⟩
 ·obtain⟨v,z⟩:=I.cell x c e
  exact⟨v,cellK x c e v z⟩
 ·obtain⟨m,⟨o,_,_,ho,_⟩,_⟩:=I.loc
  exact free _ o (λz=>(hch _ z).2.1 rfl) ho I.free
 ·obtain⟨v,o,ho,hd⟩:=I.cell x c e
  exact free c o (λz=>(hch c z).2.2.1 x c e rfl) ho (I.freeC x c e)
 ·obtain⟨e,n,ne,nf,d⟩:=I.pin p hp
  have nch:p.1∉ch:=λz=>(hch p.1 z).2.2.2 p hp rfl
  exact⟨keep p.1 p.2 ne nf nch e n,free p.1 p.2 nch e n,ne,nf,d⟩
theorem Inv.un {t':Nat}(I:Inv X pins σ H s)(u:Un X.fs [] H H' s.heap h')(hok:HOk X.prog X.w H' h'):Inv X pins σ H' { s with heap:=h',toks:=t' }:=by
 obtain⟨m,⟨o,es,ep,ho,r⟩,_⟩:=id I.loc
 obtain⟨sl,hL⟩:=u.any ho I.free (by simp)
 exact I.step (g':=s.gens) (d':=s.drawn) (ch:=[]) (λ_ z=>nomatch z) (λb o _ hb _ e n=>u.keep b o e n hb (by simp)) (λb o _ hb _ e n=>u.slot b o e n hb (by simp)) (λb o _ e n=>u.free b o e n (by simp)) (λb o _ e=>u.there b o e (by simp)) u.tups u.frzs u.tbls (λm' hm=>by
  obtain⟨o',es',ep',ho',r'⟩:=hm
  rw[ho] at ho';cases ho'
  exact⟨_,es',ep',hL,r'⟩) hok I.bare
theorem Inv.call {g':Array GenState}{t':Nat}{d':Drawn}{ch:List Addr}(I:Inv X pins σ H s)(u:Un (frs X.stack) ch H H' s.heap h')(hok:HOk X.prog X.w H' h')(hg:w9 g')
  (hch:∀b∈ch,(b∈X.ex\/X.s₀.heap.objs.size<=b)/\b≠X.env.locals/\(∀x c,X.env.cells.lookup x=some c->c≠b)/\∀p∈X.pn++pins,p.1≠b) :
  Inv X pins σ H' { s with heap:=h',gens:=g',drawn:=d',toks:=t' }:=by
 obtain⟨m,⟨o,es,ep,ho,r⟩,_⟩:=id I.loc
 obtain⟨sl,hL⟩:=u.any ho I.free λz=>(hch _ z).2.1 rfl
 exact I.step (ch:=ch) hch (λb o hL hb hc e n=>u.keep b o e n (λz=>(b6.mp (I.stkSub b z)).elim hL hb) hc) (λb o _ _ hc e n=>u.any e n hc) (λb o hc e n=>u.free b o e n hc) (λb o hc e=>u.there b o e hc) u.tups u.frzs u.tbls (λm' hm=>by
  obtain⟨o',es',ep',ho',r'⟩:=hm
  rw[ho] at ho';cases ho'
  exact⟨_,es',ep',hL,r'⟩) hok hg
theorem Inv.turned {t':Nat}{it:Addr}(I:Inv X pins σ H s)(k:∀b o,b≠it->s.heap.get? b=some o->h'.get? b=some o)(hn:H it=none)(hL:it≠X.env.locals)
  (h1:it∈X.ex\/X.s₀.heap.objs.size<=it) (h2:∀x c,X.env.cells.lookup x=some c->c≠it) (h3:∀p∈X.pn++pins,p.1≠it):Inv X pins σ H { s with heap:=h',toks:=t' }:=by
 have nit:∀b u,H b=some u->b≠it:=λb u e z=>by rw[z,hn] at e;cases e
 refine I.step (g':=s.gens) (d':=s.drawn) (ch:=[it]) (λb hb=>?_) (λb o _ _ hc e _=>k b o (λz=>hc (by simp[z])) e) (λb o _ _ hc e _=>⟨o.slots,k b o (λz=>hc (by simp[z])) e⟩) (λ_ _ _ _ n=>n)
  (λb o hc e=>⟨o,k b o (λz=>hc (by simp[z])) e⟩) (λ_ _ e=>e) (λ_ _ _ e=>e) (λb ps e=>⟨#[],by rw[e];simp⟩) (λm hm=>?_) (λb u e=>?_) I.bare
 ·have e:b=it:=by simpa using hb
  subst e
  exact⟨h1,hL,h2,h3⟩
 ·obtain⟨o,es,ep,ho,r⟩:=hm
  exact⟨o,es,ep,k _ o (jh hL) ho,r⟩
 ·refine(I.hok b u e).stay (λc v hc q=>k c v ?_ q) (λ_ q=>q) λ_ _ q=>q
  rcases hc with z | z
  ·rw[z];exact nit b u e
  ·exact nit c _ z
theorem Inv.tok (I:Inv X pins σ H s)(t:Nat):Inv X pins σ H { s with toks:=t }:=I.un (h':=s.heap) (t':=t) Un.refl I.hok
theorem Inv.kept {t':Nat}(I:Inv X pins σ H s)(k:∀b u,s.heap.get? b=some u->h'.get? b=some u):Inv X pins σ H { s with heap:=h',toks:=t' }:=I.un (Un.kept k) (I.hok.kept k)
theorem Inv.laid {a:Addr}{o:HO}{t':Nat}(I:Inv X pins σ H s)(k:∀b u,s.heap.get? b=some u->h'.get? b=some u)(hp:s.heap.objs.size<=a)(new:ObjOk X.prog X.w (upd H a o) h' a o) :
  Inv X pins σ (upd H a o) { s with heap:=h',toks:=t' }:=I.un (Un.laid k hp (I.hok.fresh hp)) (I.hok.laid k hp new)
theorem Inv.write {x e:Addr}{o:HO}{t':Nat}(I:Inv X pins σ H s)(mu:Mut (H x))(he:e=x\/H e=some (.own x))(k:∀b u,b≠e->s.heap.get? b=some u->h'.get? b=some u)(heo:∃u,h'.get? e=some u)
  (new:ObjOk X.prog X.w (upd H x o) h' x o):Inv X pins σ (upd H x o) { s with heap:=h',toks:=t' }:=I.un (Un.write mu he k heo) (I.hok.write mu he k heo new)
theorem Inv.pins_of {pins':List (Addr×Obj)}(I:Inv X pins σ H s)(h:∀p∈pins',s.heap.get? p.1=some p.2/\H p.1=none/\p.1≠X.env.locals/\p.1∉X.fs/\∀v,p.2.data ≠ .cell v):Inv X pins' σ H s:=
 ⟨I.ok,I.os,I.bare,I.base,I.loc,I.cell,I.free,I.freeC,λp hp=>(b9.mp hp).elim (λz=>I.pin p (ck _ z)) (h p),I.hok,I.len⟩
theorem qK {N:List Str}(hN:N.Nodup){i j:Nat}{x:Str}(a:N[i]?=some x)(b:N[j]?=some x):i=j:=by
 obtain⟨h1,e1⟩:=au.mp a
 obtain⟨h2,e2⟩:=au.mp b
 exact(ym hN).mp (e1.trans e2.symm)
theorem tG {M:Model}{A:Around}{E:Value->Shared->Prop}{i:Nat}{x:Str}{v:V}{u:Value}{Q:Unit->Shared->Prop}(I:Inv X pins σ H s)(hN:X.N.Nodup)(hi:X.N[i]?=some x)(hx:Loc X.env.scope x)(r:RelV v u)
  (h:∀s',Inv X pins (σ.set i (some v)) H s'->(∃a,je a s.heap s'.heap/\(a=X.env.locals\/X.env.cells.lookup x=some a))->Q () s') (hf:X.fn x=true\/X.env.scope.names.lookup x=some .local:=by first | exact .inl rfl | exact .inr rfl | assumption):wpAny M A (storeName X.env x u) Q E s:=by
 obtain⟨m,hn,hl⟩:=id I.loc
 have hcls:(X.env.scope.kind == .class || (X.env.scope.kind == .module && X.env.locals != X.env.globals))=false:=by rw[I.ok.kind];rfl
 have hiσ:i<σ.length:=by rw[I.len];exact(au.mp hi).1
 have cne:=I.cne
 have tracked:∀{a:Addr}{h':Heap},(∃o,s.heap.get? a=some o/\H a=none)->je a s.heap h'->HOk X.prog X.w H h':=λ{a h'} ha hs b ob e=>by
  obtain⟨_,_,hfree⟩:=ha
  refine(I.hok b ob e).stay (λc w' hc q=>(hs.2 c ?_).trans q) (λ_ q=>q) λ_ _ q=>q
  rintro rfl
  rcases hc with rfl | hc
  ·rw[hfree] at e;cases e
  ·rw[hfree] at hc;cases hc
 rcases hx with hk | hk
 ·refine wpAny_storeName_local hk hn (λh' hn' hs=>?_) hcls
  obtain⟨oL,_,_,hoL,_⟩:=id hn
  refine h _ ⟨I.ok,I.os,I.bare,⟨λb o e n hb hx=>?_,λb o e n hb hx=>?_,I.base.free,λb o e hx=>?_,I.base.tups,I.base.frzs,I.base.tbls⟩,⟨_,hn',λj y v' e1 e2 e3=>?_⟩,λy c e=>?_,I.free,I.freeC,λp hp=>?_,tracked ⟨oL,hoL,I.free⟩ hs,by simpa using I.len⟩ ⟨_,hs, .inl rfl⟩
  ·exact(hs.2 b (df (cy (br e) I.ok.above))).trans (I.base.keep b o e n hb hx)
  ·obtain⟨sl,e1⟩:=I.base.slot b o e n hb hx
   exact⟨sl,(hs.2 b (df (cy (br e) I.ok.above))).trans e1⟩
  ·obtain⟨o',e1⟩:=I.base.there b o e hx
   exact⟨o',(hs.2 b (df (cy (br e) I.ok.above))).trans e1⟩
  ·by_cases hj:j=i
   ·subst hj
    rw[hi] at e1;cases e1
    rw[gw hiσ] at e2
    cases e2
    exact⟨u,r, .inl ⟨hk,by simp⟩⟩
   ·rw[gv (jh hj)] at e2
    obtain⟨u',r',q⟩:=hl j y v' e1 e2 e3
    refine⟨u',r',?_⟩
    rcases q with⟨k,e⟩ | ⟨k,c,e,z⟩
    ·refine .inl ⟨k,?_⟩
     have:y≠x:=λe=>hj (qK hN e1 (e ▸ hi))
     simp[this,e]
    ·exact .inr ⟨k,c,e,z.sameBut hs (cne y c e)⟩
  ·obtain⟨w',z⟩:=I.cell y c e
   exact⟨w',z.sameBut hs (cne y c e)⟩
  ·obtain⟨e,n,ne,nf,d⟩:=I.pin p hp
   exact⟨(hs.2 p.1 ne).trans e,n,ne,nf,d⟩
 ·have hfn:X.fn x=true:=by
   rcases hf with z | z
   ·exact z
   ·rw[z] at hk;cases hk
  obtain⟨c,hc⟩:=I.ok.has x (.inl hk)
  obtain⟨w',z⟩:=I.cell x c hc
  refine wpAny_storeName_cell I.ok.kind hk hc z (λh' hc' hs=>?_)
  obtain⟨oc,hoc,hocd⟩:=id z
  refine h { s with heap:=h' } ⟨I.ok,I.os,I.bare,⟨λb o e n hb hx=>?_,λb o e n hb hx=>?_,I.base.free,λb o e hx=>?_,I.base.tups,I.base.frzs,I.base.tbls⟩,⟨m,hn.sameBut hs (jh (cne x c hc)),λj y v' e1 e2 e3=>?_⟩,λy c' e=>?_,I.free,I.freeC,λp hp=>?_,tracked ⟨oc,hoc,I.freeC x c hc⟩ hs,by simpa using I.len⟩ ⟨c,hs, .inr hc⟩
  ·exact(hs.2 b (df (cy (br e) (I.ok.cab x c hfn hc)))).trans (I.base.keep b o e n hb hx)
  ·obtain⟨sl,e1⟩:=I.base.slot b o e n hb hx
   exact⟨sl,(hs.2 b (df (cy (br e) (I.ok.cab x c hfn hc)))).trans e1⟩
  ·obtain⟨o',e1⟩:=I.base.there b o e hx
   exact⟨o',(hs.2 b (df (cy (br e) (I.ok.cab x c hfn hc)))).trans e1⟩
  ·by_cases hj:j=i
   ·subst hj
    rw[hi] at e1;cases e1
    rw[gw hiσ] at e2
    cases e2
    exact⟨u,r, .inr ⟨.inl hk,c,hc,hc'⟩⟩
   ·rw[gv (jh hj)] at e2
    obtain⟨u',r',q⟩:=hl j y v' e1 e2 e3
    refine⟨u',r',?_⟩
    rcases q with q | ⟨k,c',e,z'⟩
    ·exact .inl q
    ·refine .inr ⟨k,c',e,z'.sameBut hs ?_⟩
     rintro rfl
     exact hj (qK hN e1 (I.ok.inj _ _ _ e hc ▸ hi))
  ·by_cases hcc:c'=c
   ·subst hcc;exact⟨_,hc'⟩
   ·obtain⟨w2,z2⟩:=I.cell y c' e
    exact⟨w2,z2.sameBut hs hcc⟩
  ·obtain⟨e,n,ne,nf,d⟩:=I.pin p hp
   refine⟨(hs.2 p.1 ?_).trans e,n,ne,nf,d⟩
   intro q
   rw[q,hoc] at e
   have q':oc=p.2:=da e
   exact d w' (by rw[<- q'];exact hocd)
theorem gO {M:Model}{A:Around}{E:Value->Shared->Prop}{i:Nat}{x:Str}{v:V}{u:Value}{Q:Unit->Shared->Prop}(I:Inv X pins σ H s)(hN:X.N.Nodup)(hi:X.N[i]?=some x)(hx:Loc X.env.scope x)(r:RelV v u)
  (h:∀s',Inv X pins (σ.set i (some v)) H s'->Q () s') (hf:X.fn x=true\/X.env.scope.names.lookup x=some .local:=by first | exact .inl rfl | exact .inr rfl | assumption):wpAny M A (storeName X.env x u) Q E s:=
 tG I hN hi hx r (λs' I' _=>h s' I') hf
theorem Inv.call' {s':Shared}{ch:List Addr}(I:Inv X pins σ H s)(ho:s'.os=s.os)(u:Un (frs X.stack) ch H H' s.heap s'.heap)(hok:HOk X.prog X.w H' s'.heap)(hg:w9 s'.gens)
  (hch:∀b∈ch,(b∈X.ex\/X.s₀.heap.objs.size<=b)/\b≠X.env.locals/\(∀x c,X.env.cells.lookup x=some c->c≠b)/\∀p∈X.pn++pins,p.1≠b):Inv X pins σ H' s':=by
 obtain⟨h',g',d',t',o'⟩:=s'
 have e:o'=s.os:=ho
 subst e
 exact I.call (g':=g') (t':=t') (d':=d') u hok hg hch
end
abbrev XK:=Value->Option Addr->Hp->Prop
abbrev St:=List (Option V)
abbrev VK:=V->Hp->Prop
abbrev TE:=St->Hp->VK->Prop
abbrev TT:=St->Hp->(Bool->Hp->Prop)->Prop
abbrev TA:=St->Hp->(List V->Hp->Prop)->Prop
structure hU where
 nx:St->Hp->Prop
 rt:VK
 bk:St->Hp->Prop:=λ_ _=>False
 ct:St->Hp->Prop:=λ_ _=>False
abbrev TS:=hU->St->Hp->Prop
def EP (X:Cx) (pins:List (Addr×Obj)) (σ:St) (Q:VK) (u:Value) (s':Shared):Prop:=∃v H',Inv X pins σ H' s'/\RelV v u/\Q v H'
def TP (X:Cx) (pins:List (Addr×Obj)) (σ:St) (Q:Bool->Hp->Prop) (b:Bool) (s':Shared):Prop:=∃H',Inv X pins σ H' s'/\Q b H'
def AP (X:Cx) (pins:List (Addr×Obj)) (σ:St) (Q:List V->Hp->Prop) (us:List Value) (s':Shared):Prop:=∃vs H',Inv X pins σ H' s'/\Vals vs us/\Q vs H'
def SP (X:Cx) (pins:List (Addr×Obj)) (D:hU) (f:Flow) (s':Shared):Prop:=
 match f with
 | .next=>∃σ' H',Inv X pins σ' H' s'/\D.nx σ' H'
 | .brk=>∃σ' H',Inv X pins σ' H' s'/\D.bk σ' H'
 | .cont=>∃σ' H',Inv X pins σ' H' s'/\D.ct σ' H'
 | .ret u=>∃v σ' H',Inv X pins σ' H' s'/\RelV v u/\D.rt v H'
def PE (X:Cx) (e:Expr) (t:TE):Prop:=
 ∀(pins:List (Addr×Obj)) (s:Shared) (σ:St) (H:Hp) (Q:VK),Inv X pins σ H s->t σ H Q->wpAny (model X.prog X.w) X.A (eval e X.env) (EP X pins σ Q) X.xe s
def PT (X:Cx) (e:Expr) (t:TT):Prop:=
 ∀(pins:List (Addr×Obj)) (s:Shared) (σ:St) (H:Hp) (Q:Bool->Hp->Prop),Inv X pins σ H s->t σ H Q->wpAny (model X.prog X.w) X.A (isTrue e X.env (eval e X.env)) (TP X pins σ Q) X.xe s
def PW (X:Cx) (e:Expr) (t:TT):Prop:=
 ∀(whole:Sem Value) (pins:List (Addr×Obj)) (s:Shared) (σ:St) (H:Hp) (Q:Bool->Hp->Prop),Inv X pins σ H s->t σ H Q->wpAny (model X.prog X.w) X.A (isTrue e X.env whole) (TP X pins σ Q) X.xe s
theorem PW.pt {X:Cx}{e:Expr}{t:TT}(h:PW X e t):PT X e t:=h _
def PA (X:Cx) (es:List Expr) (t:TA):Prop:=
 ∀(pos:Pos) (pins:List (Addr×Obj)) (s:Shared) (σ:St) (H:Hp) (Q:List V->Hp->Prop),Inv X pins σ H s->t σ H Q->wpAny (model X.prog X.w) X.A (spliced (zc pos (fi es X.env))) (AP X pins σ Q) X.xe s
def PS (X:Cx) (st:Stmt) (t:TS):Prop:=
 ∀(pins:List (Addr×Obj)) (s:Shared) (σ:St) (H:Hp) (D:hU),Inv X pins σ H s->t D σ H->wpAny (model X.prog X.w) X.A (exec st X.env) (SP X pins D) X.xe s
def PSs (X:Cx) (st:List Stmt) (t:TS):Prop:=
 ∀(pins:List (Addr×Obj)) (s:Shared) (σ:St) (H:Hp) (D:hU),Inv X pins σ H s->t D σ H->wpAny (model X.prog X.w) X.A (execs st X.env) (SP X pins D) X.xe s
theorem thn {α:Type}{t:Sem α}{Q Q':α->Shared->Prop}{M:Model}{A:Around}{E:Value->Shared->Prop}{s:Shared}(h:wpAny M A t Q E s)(hQ:∀a s,Q a s->Q' a s):wpAny M A t Q' E s:=fz h hQ λ_ _ x=>x
section
variable {X:Cx}
inductive aIz (i:Nat) (σ:St) (H:Hp) (Q:VK):Prop
 |mk (v:V) (h:σ[i]?=some (some v)) (q:Q v H):aIz i σ H Q
def aF (i:Nat):TE:=λσ H Q=>aIz i σ H Q
def tC (v:V):TE:=λ_ H Q=>Q v H
theorem aHO {i:Nat}{x:Str}{pos:Pos}(hN:X.N[i]?=some x)(hv:Vis X.env.scope x)(hd:(x == ("__debug__" : Str))=false:=by decide)(hcd:(x == ("__classdict__" : Str))=false:=by decide):PE X (.Name x pos) (aF i):=by
 intro pins s σ H Q I h
 obtain⟨v,e,h⟩:=h
 obtain⟨m,hn,hl⟩:=I.loc
 obtain⟨u,r,l⟩:=hl i x v hN e hv
 have fin:EP X pins σ Q u s:=⟨v,H,I,r,h⟩
 rcases l with⟨hk,hm⟩ | ⟨hk,c,hc,hcell⟩
 ·exact wpAny_Name (wpAny_loadName_local I.ok.kind hk hn hm fin) hd
 ·rcases hk with hk | hk
  ·exact wpAny_Name (wpAny_loadName_cell I.ok.kind hk hc hcell fin) hd
  ·exact wpAny_Name (wpAny_loadName_free I.ok.kind hk hc hcell fin hcd) hd
theorem aJ {i j pos}:PE X (.Constant (.int i) j pos) (tC (.int i)):=λ_ _ _ H _ I h=>wpAny_Constant_int ⟨.int i,H,I.tok _,⟨_,rfl⟩,h⟩
theorem nH {b j pos}:PE X (.Constant (.bool b) j pos) (tC (.bl b)):=λ_ _ _ H _ I h=>Constant_bool ⟨.bl b,H,I,rfl,h⟩
theorem yI {j pos}:PE X (.Constant .none j pos) (tC .non):=λ_ _ _ H _ I h=>Constant_none ⟨.non,H,I,rfl,h⟩
theorem dM {x j pos}:PE X (.Constant (.str x) j pos) (tC (.str x)):=λ_ _ _ H _ I h=>Calls.Constant_str ⟨.str x,H,I.tok _,⟨_,rfl⟩,h⟩
def Gl (X:Cx) (x:Str):Prop:=X.env.kindOf x=some .globalImplicit
theorem rG {E:Value->Shared->Prop}{pins:List (Addr×Obj)}{s:Shared}{σ:St}{H:Hp}{x:Str}{u:Value}{pos:Pos}{Q:Value->Shared->Prop}(I:Inv X pins σ H s)(hg:Gl X x)(hm:X.mg x=some u)(h:Q u s)
  (hd:(x == ("__debug__" : Str))=false:=by decide):wpAny (model X.prog X.w) X.A (eval (.Name x pos) X.env) Q E s:=
 v7 I.ok.kind hg (Calls.loadGlobal_global (by rw[I.ok.glob];exact I.mod.glob.keeps I.bk) hm h) hd
theorem mZ {E:Value->Shared->Prop}{pins:List (Addr×Obj)}{s:Shared}{σ:St}{H:Hp}{x:Str}{u:Value}{pos:Pos}{Q:Value->Shared->Prop}(I:Inv X pins σ H s)(hg:Gl X x)(hm:X.mg x=none)(hv:ei x=some u)(h:Q u s)
  (hn:x≠"__name__":=by decide) (hd:(x == ("__debug__" : Str))=false:=by decide):wpAny (model X.prog X.w) X.A (eval (.Name x pos) X.env) Q E s:=by
 obtain⟨mb,h1,h2⟩:=I.mod.blt
 exact v7 I.ok.kind hg (Calls.loadGlobal_builtin (by rw[I.ok.glob];exact I.mod.glob.keeps I.bk) hm (by rw[I.ok.blt];exact h1.keeps I.bk) ((h2 x hn).trans hv) h) hd
theorem eV {x:Str}{v:V}{u:Value}{pos:Pos}(hg:Gl X x)(hm:X.mg x=some u)(r:RelV v u)(hd:(x == ("__debug__" : Str))=false:=by decide):PE X (.Name x pos) (tC v):=
 λ_ _ _ H _ I h=>rG I hg hm ⟨v,H,I,r,h⟩ hd
theorem iL {x:Str}{v:V}{u:Value}{pos:Pos}(hg:Gl X x)(hm:X.mg x=none)(hv:ei x=some u)(r:RelV v u)(hn:x≠"__name__":=by decide)(hd:(x == ("__debug__" : Str))=false:=by decide):PE X (.Name x pos) (tC v):=
 λ_ _ _ H _ I h=>mZ I hg hm hv ⟨v,H,I,r,h⟩ hn hd
variable {a b:Expr}{ta tb:TE}{pos:Pos}
def PC (X:Cx) (op:CmpOp) (a b:Expr) (t:TE):Prop:=
 ∀(pins:List (Addr×Obj)) (s:Shared) (σ:St) (H:Hp) (Q:VK),Inv X pins σ H s->t σ H Q ->
  wpAny (model X.prog X.w) X.A (eval a X.env) (λv s₁=>wpAny (model X.prog X.w) X.A (eval b X.env) (λu s₂=>wpAny (model X.prog X.w) X.A (i8 op v u) (EP X pins σ Q) X.xe s₂) X.xe s₁) X.xe s
inductive aKA (x:V) (H:Hp) (Q:Bool->Hp->Prop):Prop
 |mk (k:Bool) (e:x = .bl k) (q:Q k H):aKA x H Q
def tB (t:TE):TT:=λσ H Q=>t σ H λx H1=>aKA x H1 Q
theorem aHD {op:CmpOp}{t:TE}(h:PC X op a b t)(h1:uz op b=false:=by first | exact nobehind _ (by decide) (by decide) | rfl):PT X (.Compare a [op] [b] pos) (tB t):=by
 intro pins s σ H Q I hw
 refine zd (thn (h pins s σ H _ I hw) λv s1 h1=>thn h1 λu s2 h2=>thn h2 λc s3 ⟨x,H1,I1,r1,q1⟩=>?_) h1
 obtain⟨d,rfl,q⟩:=q1
 cases r1
 exact iw ⟨H1,I1,q⟩
theorem jH {e:Expr}{t:TE}(h:PE X e t)(he:∀whole,isTrue e X.env whole=(do let v <- whole;Az e.pos;ya [v] (truthy v)):=by intro _;rfl):PT X e (tB t):=by
 intro pins s σ H Q I hw
 refine isTrue_plain (thn (h pins s σ H _ I hw) λv s1 ⟨x,H1,I1,r1,q1⟩=>?_) (he _)
 obtain⟨d,rfl,q⟩:=q1
 cases r1
 exact iw ⟨H1,I1,q⟩
variable {tA tB':TT}{rest:List Expr}
def aHk (t u:TT):TT:=λσ H Q=>t σ H λc H1=>if c=true then u σ H1 Q else Q false H1
def tOr (t u:TT):TT:=λσ H Q=>t σ H λc H1=>if c=true then Q true H1 else u σ H1 Q
def aEL (t:TT):TT:=λσ H Q=>t σ H λc H1=>Q (!c) H1
theorem qB (ha:PT X a tA):PW X (.BoolOp .And [a] pos) tA:=by
 intro wh pins s σ H Q I h
 refine isTrue_and (thn (ha pins s σ H Q I h) λc s1 e=>?_)
 cases c with
 |true=>exact isTrue_and_nil e
 |false=>exact e
theorem aBB (ha:PT X a tA):PW X (.BoolOp .Or [a] pos) tA:=by
 intro wh pins s σ H Q I h
 refine isTrue_or (thn (ha pins s σ H Q I h) λc s1 e=>?_)
 cases c with
 |false=>exact isTrue_or_nil e
 |true=>exact e
theorem xQ (ha:PT X a tA)(hb:PW X (.BoolOp .And (b :: rest) pos) tB'):PW X (.BoolOp .And (a :: b :: rest) pos) (aHk tA tB'):=by
 intro wh pins s σ H Q I h
 refine isTrue_and (thn (ha pins s σ H _ I h) λc s1 ⟨H1,I1,q1⟩=>?_)
 cases c with
 |true=>exact hb wh pins s1 σ H1 Q I1 q1
 |false=>exact⟨H1,I1,q1⟩
theorem aCZ (ha:PT X a tA)(hb:PW X (.BoolOp .Or (b :: rest) pos) tB'):PW X (.BoolOp .Or (a :: b :: rest) pos) (tOr tA tB'):=by
 intro wh pins s σ H Q I h
 refine isTrue_or (thn (ha pins s σ H _ I h) λc s1 ⟨H1,I1,q1⟩=>?_)
 cases c with
 |true=>exact⟨H1,I1,q1⟩
 |false=>exact hb wh pins s1 σ H1 Q I1 q1
theorem pT (ha:PT X a tA):PT X (.UnaryOp .Not a pos) (aEL tA):=by
 intro pins s σ H Q I h
 exact isTrue_not (ha pins s σ H (λc H1=>Q (!c) H1) I h)
def rB (ta tb:TE):TE:=λσ H Q=>ta σ H λx H1=>∃c,x = .bl c/\if c=true then tb σ H1 Q else Q (.bl false) H1
def aFz (ta:TE):TE:=λσ H Q=>ta σ H λx H1=>∃c,x = .bl c/\Q (.bl (!c)) H1
theorem iS {op}{t:TE}(h:PE X a t):PE X (.BoolOp op [a] pos) t:=λpins s σ H Q I hw=>BoolOp_one (h pins s σ H Q I hw)
theorem lI (ha:PE X a ta)(hb:PE X (.BoolOp .And (b :: rest) pos) tb):PE X (.BoolOp .And (a :: b :: rest) pos) (rB ta tb):=by
 intro pins s σ H Q I h
 refine BoolOp_and (thn (ha pins s σ H _ I h) λv s1 ⟨x,H1,I1,r1,q1⟩=>?_)
 obtain⟨c,rfl,q1⟩:=q1
 cases r1
 refine iw ?_
 cases c with
 |true=>exact hb pins s1 σ H1 Q I1 q1
 |false=>exact⟨.bl false,H1,I1,rfl,q1⟩
theorem aEH (ha:PE X a ta):PE X (.UnaryOp .Not a pos) (aFz ta):=by
 intro pins s σ H Q I h
 refine UnaryOp_ (thn (ha pins s σ H _ I h) λv s1 ⟨x,H1,I1,r1,q1⟩=>?_)
 obtain⟨c,rfl,q1⟩:=q1
 cases r1
 exact not_of (iw ⟨.bl (!c),H1,I1,rfl,q1⟩)
def tIf (t:TT) (ta tb:TE):TE:=λσ H Q=>t σ H λc H1=>if c=true then ta σ H1 Q else tb σ H1 Q
theorem mB {c:Expr}(hc:PT X c tA)(ha:PE X a ta)(hb:PE X b tb):PE X (.IfExp c a b pos) (tIf tA ta tb):=by
 intro pins s σ H Q I h
 refine wpAny_IfExp (thn (hc pins s σ H _ I h) λd s1 ⟨H1,I1,q1⟩=>?_)
 cases d with
 |true=>exact ha pins s1 σ H1 Q I1 q1
 |false=>exact hb pins s1 σ H1 Q I1 q1
end
def SqL (K:aa) (H:Hp) (a:Addr) (xs:List V):Prop:=
 Rd H a (.lst xs) \/
  ∃(o:Obj) (its:Array Value) (n:Nat),K.lookup a=some o/\o.cls = .type "list"/\o.dict=none/\o.data = .seq its n/\its.size<=ba/\Vals xs its.toList
def SqT (K:aa) (H:Hp) (a:Addr) (xs:List V):Prop:=
 Rd H a (.tup xs) \/
  ∃(o:Obj) (its:Array Value) (n:Nat),K.lookup a=some o/\o.cls = .type "tuple"/\o.dict=none/\o.data = .seq its n/\its.size<=ba/\Vals xs its.toList
def aLq:Value->Option V
 | .none=>some .non
 | .bool b=>some (.bl b)
 | .int i _=>some (.int i)
 | .str x _=>some (.str x)
 | .bytes b _=>some (.byt b)
 | .float b _=>some (.flt b)
 | .ref a=>some (.ref a)
 | .type n=>some (.ty n)
 |_=>none
theorem RelV.abs {x:V}{u:Value}(r:RelV x u):aLq u=some x:=by
 cases x with
 |non=>cases r;rfl
 |bl _=>cases r;rfl
 |int _=>obtain⟨t,rfl⟩:=r;rfl
 |str _=>obtain⟨t,rfl⟩:=r;rfl
 |byt _=>obtain⟨t,rfl⟩:=r;rfl
 |flt _=>obtain⟨t,rfl⟩:=r;rfl
 |ref _=>cases r;rfl
 |ty _=>cases r;rfl
theorem RelV.inj {x y:V}{u:Value}(r:RelV x u)(q:RelV y u):x=y:=da (r.abs.symm.trans q.abs)
theorem Vals.inj:∀{xs ys:List V}{us:List Value},Vals xs us->Vals ys us->xs=ys
 |_,_,_, .nil, .nil=>rfl
 |_,_,_, .cons r t, .cons r' t'=>by rw[r.inj r',Vals.inj t t']
section
variable {X:Cx}{pins:List (Addr×Obj)}{σ:St}{H:Hp}{s:Shared}{a:Addr}{xs ys:List V}
theorem SqL.of {K:aa}(h:H a=some (.lst xs)):SqL K H a xs := .inl (.inl h)
theorem SqT.of {K:aa}(h:H a=some (.tup xs)):SqT K H a xs := .inl (.inl h)
theorem Inv.list (I:Inv X pins σ H s)(h:SqL X.K H a xs):∃its:List Value,Vals xs its/\PlainL s.heap a its.toArray/\xs.length<=ba:=by
 rcases h with h | ⟨o,its,n,hk,hc,hd,hs,hz,r⟩
 ·obtain⟨z,its,n,r,e⟩:=h.ok I.hok
  exact⟨its,r,⟨_,n,e,rfl,rfl,rfl⟩,z⟩
 ·refine⟨its.toList,r,⟨o,n,I.kIn a o hk,hc,hd,by simpa using hs⟩,?_⟩
  have e:=r.length
  simp only[gf] at e
  omega
theorem Inv.tuple (I:Inv X pins σ H s)(h:SqT X.K H a xs):∃its:List Value,Vals xs its/\IsTup s.heap a its.toArray/\xs.length<=ba:=by
 rcases h with h | ⟨o,its,n,hk,hc,_,hs,hz,r⟩
 ·obtain⟨z,its,r,p⟩:=h.ok I.hok
  exact⟨its,r,p.tup,z⟩
 ·refine⟨its.toList,r,⟨o,I.kIn a o hk,hc,n,by simpa using hs⟩,?_⟩
  have e:=r.length
  simp only[gf] at e
  omega
theorem Inv.list_inj (I:Inv X pins σ H s)(h:SqL X.K H a xs)(h':SqL X.K H a ys):xs=ys:=by
 obtain⟨its,r,⟨o,n,e,_,_,d⟩,_⟩:=I.list h
 obtain⟨its',r',⟨o',n',e',_,_,d'⟩,_⟩:=I.list h'
 rw[e] at e';cases e'
 rw[d] at d'
 injection d' with d1 _
 have:its=its':=by simpa using congrArg Bb d1
 subst this
 exact r.inj r'
theorem Inv.tuple_inj (I:Inv X pins σ H s)(h:SqT X.K H a xs)(h':SqT X.K H a ys):xs=ys:=by
 obtain⟨its,r,⟨o,e,_,n,d⟩,_⟩:=I.tuple h
 obtain⟨its',r',⟨o',e',_,n',d'⟩,_⟩:=I.tuple h'
 rw[e] at e';cases e'
 rw[d] at d'
 injection d' with d1 _
 have:its=its':=by simpa using congrArg Bb d1
 subst this
 exact r.inj r'
end
abbrev Cx.wish (X:Cx) (E:Value->Shared->Prop):Cx:={ X with xe:=E }
abbrev Cx.nox (X:Cx):Cx:=X.wish λ_ _=>False
theorem Cx.Ok.wish {X:Cx}(ok:X.Ok)(E:Value->Shared->Prop):(X.wish E).Ok:=
 ⟨ok.mod,ok.kind,ok.glob,ok.blt,ok.above,ok.inj,ok.has,ok.cab,ok.hd,ok.frames,ok.stk,ok.exf,ok.bs,ok.bsz,ok.noex,ok.exfs,ok.funs,ok.frf⟩
theorem Cx.Ok.unwish {X:Cx}{E:Value->Shared->Prop}(ok:(X.wish E).Ok):X.Ok:=
 ⟨ok.mod,ok.kind,ok.glob,ok.blt,ok.above,ok.inj,ok.has,ok.cab,ok.hd,ok.frames,ok.stk,ok.exf,ok.bs,ok.bsz,ok.noex,ok.exfs,ok.funs,ok.frf⟩
section
variable {X:Cx}{pins:List (Addr×Obj)}{σ:St}{H:Hp}{s:Shared}{E:Value->Shared->Prop}
theorem Inv.wish (I:Inv X pins σ H s)(E:Value->Shared->Prop):Inv (X.wish E) pins σ H s:=⟨I.ok.wish E,I.os,I.bare,I.base,I.loc,I.cell,I.free,I.freeC,I.pin,I.hok,I.len⟩
theorem Inv.unwish (I:Inv (X.wish E) pins σ H s):Inv X pins σ H s:=⟨I.ok.unwish,I.os,I.bare,I.base,I.loc,I.cell,I.free,I.freeC,I.pin,I.hok,I.len⟩
theorem SP.unwish {D:hU}{f:Flow}{s':Shared}(h:SP (X.wish E) pins D f s'):SP X pins D f s':=by
 cases f with
 |next=>obtain⟨σ',H',I,q⟩:=h;exact⟨σ',H',I.unwish,q⟩
 |brk=>obtain⟨σ',H',I,q⟩:=h;exact⟨σ',H',I.unwish,q⟩
 |cont=>obtain⟨σ',H',I,q⟩:=h;exact⟨σ',H',I.unwish,q⟩
 |ret u=>obtain⟨v,σ',H',I,r,q⟩:=h;exact⟨v,σ',H',I.unwish,r,q⟩
theorem PT.nox {e:Expr}{t:TT}(h:PT X.nox e t):PT X e t:=λpins s σ H Q I hw=>
 fz (h pins s σ H Q (I.wish _) hw) (λ_ _ ⟨H',I',q⟩=>⟨H',I'.unwish,q⟩) λ_ _ z=>kx z
theorem PSs.nox {st:List Stmt}{t:TS}(h:PSs X.nox st t):PSs X st t:=λpins s σ H D I hw=>
 fz (h pins s σ H D (I.wish _) hw) (λ_ _ q=>q.unwish) λ_ _ z=>kx z
end
section
variable {X:Cx}{st:Stmt}{rest:List Stmt}{t u:TS}{e:Expr}{te:TE}{pos:Pos}
def aQ:TS:=λD σ H=>D.nx σ H
def aT (t u:TS):TS:=λD σ H=>t { D with nx:=u D } σ H
theorem aH:PSs X [] aQ:=λ_ _ σ H _ I h=>ve ⟨σ,H,I,h⟩
theorem aB (h1:PS X st t)(h2:PSs X rest u):PSs X (st :: rest) (aT t u):=by
 intro pins s σ H D I h
 refine wpAny_execs_cons (thn (h1 pins s σ H { D with nx:=u D } I h) λf s1 q=>?_)
 cases f with
 |next=>
  obtain⟨σ',H',I',q⟩:=q
  exact h2 pins s1 σ' H' D I' q
 |ret v=>exact q
 |brk=>exact q
 |cont=>exact q
theorem Inv.quiet {pins:List (Addr×Obj)}{σ:St}{H:Hp}{s:Shared}(I:Inv X pins σ H s):interactive X.env=false:=by simp[interactive,I.ok.kind]
def oG (te:TE):TS:=λD σ H=>te σ H λ_ H1=>D.nx σ H1
theorem gE (he:PE X e te)(hs:AR e none pos.line X.env=pure false:=by rfl):PS X (.Expr e pos) (oG te):=by
 intro pins s σ H D I h
 exact wpAny_Expr_any (thn (he pins s σ H _ I h) λv s1 ⟨x,H1,I1,r1,q1⟩=>⟨σ,H1,I1,q1⟩) I.quiet hs
def dG (te:TE):TS:=λD σ H=>te σ H D.rt
theorem bF (he:PE X e te):PS X (.Return (some e) pos) (dG te):=by
 intro pins s σ H D I h
 exact wpAny_Return_some (thn (he pins s σ H _ I h) λv s1 ⟨x,H1,I1,r1,q1⟩=>⟨x,σ,H1,I1,r1,q1⟩)
def gP (c:TT) (t u:TS):TS:=λD σ H=>c σ H λb H1=>if b=true then t D σ H1 else u D σ H1
theorem dH {c:Expr}{a b:List Stmt}{tc:TT}(hc:PT X c tc)(ha:PSs X a t)(hb:PSs X b u):PS X (.If c a b pos) (gP tc t u):=by
 intro pins s σ H D I h
 refine wpAny_If (thn (hc pins s σ H _ I h) λd s1 ⟨H1,I1,q1⟩=>?_)
 cases d with
 |true=>exact ha pins s1 σ H1 D I1 q1
 |false=>exact hb pins s1 σ H1 D I1 q1
end
abbrev TG:=V->St->Hp->(St->Hp->Prop)->Prop
abbrev TGs:=List V->St->Hp->(St->Hp->Prop)->Prop
def PG (X:Cx) (target:Expr) (t:TG):Prop:=
 ∀(pins:List (Addr×Obj)) (s:Shared) (σ:St) (H:Hp) (v:V) (u:Value) (Q:St->Hp->Prop),Inv X pins σ H s->RelV v u->t v σ H Q ->
  wpAny (model X.prog X.w) X.A (Bc target X.env u) (λ_ s'=>∃σ' H',Inv X pins σ' H' s'/\Q σ' H') X.xe s
def PGs (X:Cx) (ts:List Expr) (t:TGs):Prop:=
 ∀(pins:List (Addr×Obj)) (s:Shared) (σ:St) (H:Hp) (vs:List V) (us:List Value) (Q:St->Hp->Prop),Inv X pins σ H s->Vals vs us->t vs σ H Q ->
  wpAny (model X.prog X.w) X.A (AS ((sv ts X.env).map (·.2)) us) (λ_ s'=>∃σ' H',Inv X pins σ' H' s'/\Q σ' H') X.xe s
abbrev aJS:=V->V->V->Hp->(Hp->Prop)->Prop
def aKG (X:Cx) (t:aJS):Prop:=
 ∀(pins:List (Addr×Obj)) (s:Shared) (σ:St) (H:Hp) (o i v:V) (ov iv u:Value) (Q:Hp->Prop),Inv X pins σ H s->RelV o ov->RelV i iv->RelV v u->t o i v H Q ->
  wpAny (model X.prog X.w) X.A (setItem ov iv u) (λ_ s'=>∃H',Inv X pins σ H' s'/\Q H') X.xe s
section
variable {X:Cx}{pos:Pos}
def aI (i:Nat):TG:=λv σ H Q=>Q (σ.set i (some v)) H
theorem aP {i:Nat}{x:Str}(hN:X.N.Nodup)(hi:X.N[i]?=some x)(hx:Loc X.env.scope x)(hf:X.fn x=true\/X.env.scope.names.lookup x=some .local:=by first | exact .inl rfl | exact .inr rfl | assumption):PG X (.Name x pos) (aI i):=by
 intro pins s σ H v u Q I r h
 exact wpAny_assign_Name (gO I hN hi hx r (λs' I'=>⟨_,H,I',h⟩) hf)
def vG:TGs:=λvs σ H Q=>vs=[]/\Q σ H
def cK (t:TG) (u:TGs):TGs:=λvs σ H Q=>∃v r,vs=v :: r/\t v σ H λσ' H'=>u r σ' H' Q
theorem dB:PGs X [] vG:=by
 intro pins s σ H vs us Q I r h
 obtain⟨e,h⟩:=h
 subst e
 cases r
 exact assignInOrder_nil ⟨σ,H,I,h⟩
theorem bD {e:Expr}{es:List Expr}{t:TG}{u:TGs}(h1:PG X e t)(h2:PGs X es u)
  (hs:(sv (e :: es) X.env).map (·.2)=Bc e X.env :: (sv es X.env).map (·.2):=by rfl):PGs X (e :: es) (cK t u):=by
 intro pins s σ H vs us Q I r h
 obtain⟨v,vr,e1,h⟩:=h
 subst e1
 cases r with
 |cons r rr=>
  rw[hs]
  refine wa (thn (h1 pins s σ H _ _ _ I r h) λ_ s1 ⟨σ1,H1,I1,q1⟩=>?_)
  exact h2 pins s1 σ1 H1 _ _ Q I1 rr q1
def tD (K:aa) (n:Nat) (t:TGs):TG:=λv σ H Q=>∃a xs,v = .ref a/\SqT K H a xs/\xs.length=n/\t xs σ H Q
theorem aIu {es:List Expr}{k:Nat}{t:TGs}{n:Nat}(hc:X.calm=true)(h:PGs X es t)
  (hn:(sv es X.env).length=n:=by rfl) (hst:(sv es X.env).findIdx? (·.1)=none:=by rfl):PG X (.Tuple es k pos) (tD X.K n t):=by
 intro pins s σ H v u Q I r hw
 obtain⟨a,xs,e1,hq,hl,hw⟩:=hw
 subst e1
 cases r
 obtain⟨its,rv,ht,hz⟩:=I.tuple hq
 refine assign_Tuple_tuple (I.ok.hd hc) ht (by simp[hn,<- hl,rv.length]) hst λh' hx=>?_
 have I1:Inv X pins σ H { s with heap:=h' }:=I.kept (t':=s.toks) λb o e=>hx b o (df (br e)) e
 exact h pins _ σ H xs _ Q I1 (by simpa using rv) hw
def sF (to ti:TE) (t:aJS):TG:=λv σ H Q=>to σ H λo H1=>ti σ H1 λi H2=>t o i v H2 λH3=>Q σ H3
theorem jG {o i:Expr}{to ti:TE}{t:aJS}(ho:PE X o to)(hi:PE X i ti)(hs:aKG X t)
  (ha:∀v,Bc (.Subscript o i pos) X.env v=(do
   let ov <- ya [v] (eval o X.env)
   let iv <- ya [v,ov] (eval i X.env)
   Az pos
   ya [v,ov,iv] (setItem ov iv v)
   release [v,ov,iv] []):=by intro _;rfl):PG X (.Subscript o i pos) (sF to ti t):=by
 intro pins s σ H v u Q I r h
 rw[ha]
 refine af (ef (thn (ho pins s σ H _ I h) λov s1 ⟨x,H1,I1,r1,q1⟩=>?_))
 refine af (ef (thn (hi pins s1 σ H1 _ I1 q1) λiv s2 ⟨y,H2,I2,r2,q2⟩=>?_))
 refine af (qp (af (ef (thn (hs pins s2 σ H2 x y v ov iv u _ I2 r1 r2 r q2) λ_ s3 ⟨H3,I3,q3⟩=>?_))))
 exact wpAny_release ⟨σ,H3,I3,q3⟩
def bU (te:TE) (g:TG):TS:=λD σ H=>te σ H λx H1=>g x σ H1 D.nx
theorem eY {tg e:Expr}{te:TE}{g:TG}(he:PE X e te)(hg:PG X tg g)(hs:swapsWithSole [tg] e pos.line X.env=pure false:=by rfl)(hw:swappedStores [tg] e X.env=pure none:=by rfl)
  (h1:(sv [tg] X.env).map (·.2)=[Bc tg X.env]:=by rfl):PS X (.Assign [tg] e pos) (bU te g):=by
 intro pins s σ H D I h
 refine wpAny_Assign_stores (thn (he pins s σ H _ I h) λv s1 ⟨x,H1,I1,r1,q1⟩=>?_) hs hw
 rw[h1]
 exact thn (hg pins s1 σ H1 x v _ I1 r1 q1) λ_ s2 q=>q
theorem aW {i:Nat}{x:Str}{e:Expr}{te:TE}{pos':Pos}(hN:X.N.Nodup)(hi:X.N[i]?=some x)(hx:Loc X.env.scope x)(he:PE X e te)(hs:AR e (some (.Name x pos')) pos.line X.env=pure false:=by rfl)(hf:X.fn x=true\/X.env.scope.names.lookup x=some .local:=by first | exact .inl rfl | exact .inr rfl | assumption) :
  PS X (.Assign [.Name x pos'] e pos) (bU te (aI i)):=by
 intro pins s σ H D I h
 refine wpAny_Assign_Name (thn (he pins s σ H _ I h) λv s1 ⟨y,H1,I1,r1,q1⟩=>?_) hs
 exact gO I1 hN hi hx r1 (λs2 I2=>⟨_,H1,I2,q1⟩) hf
def aLb (i j:Nat) (ta:TA):TS:=λD σ H=>ta σ H λvs H1=>∃v w,vs=[v,w]/\D.nx ((σ.set i (some v)).set j (some w)) H1
theorem aHr {i j:Nat}{x y:Str}{a b:Expr}{ta:TA}{px py pt:Pos}{kt k2 pt2}(hc:X.calm=true)(hN:X.N.Nodup)(hi:X.N[i]?=some x)(hj:X.N[j]?=some y)(hij:i≠j)
  (hx:X.env.scope.names.lookup x=some .local) (hy:X.env.scope.names.lookup y=some .local) (ha:PA X [a,b] ta)
  (hw:swappedStores [.Tuple [.Name x px, .Name y py] kt pt] (.Tuple [a,b] k2 pt2) X.env=pure (some [x,y]))
  (hs:swapsWithSole [.Tuple [.Name x px, .Name y py] kt pt] (.Tuple [a,b] k2 pt2) pos.line X.env=pure false:=by rfl) :
  PS X (.Assign [.Tuple [.Name x px, .Name y py] kt pt] (.Tuple [a,b] k2 pt2) pos) (aLb i j ta):=by
 intro pins s σ H D I h
 rw[exec_Assign_arm]
 refine af (qp ?_)
 rw[hs]
 refine af (aq ?_)
 rw[if_neg (by decide)]
 refine af (Tuple_ (thn (ha _ pins s σ H _ I h) λus s1 ⟨vs,H1,I1,r1,q1⟩=>?_))
 obtain⟨v,w,e1,q1⟩:=q1
 subst e1
 obtain⟨u1,u2,rfl,rv,rw'⟩:∃u1 u2,us=[u1,u2]/\RelV v u1/\RelV w u2:=by
  cases r1 with
  |cons p q=>
   cases q with
   |cons p' q'=>
    cases q'
    exact⟨_,_,rfl,p,p'⟩
 refine fb ?_ (by show 2<=ba;decide)
 have I2:Inv X pins σ H1 { s1 with heap:=s1.heap.push { cls := .type "tuple",data := .seq [u1,u2].toArray } }:=I1.kept (t':=s1.toks) λb o e=>ak _ e
 rw[hw]
 refine af (aq ?_)
 show wpAny (model X.prog X.w) X.A (do rule "assign.swapped-stores";let items <- unpackItems (.ref s1.heap.objs.size) 2 none;AS [λv=>Br X.env y v,λv=>Br X.env x v] items.reverse;pure Flow.next) _ _ _
 refine af (tf (af (unpackItems_tuple (items:=#[u1,u2]) (I.ok.hd hc) (IsTup.new s1.heap _) λh' hx'=>?_)))
 have I3:=I2.kept (h':=h') (t':=s1.toks) λb o e=>hx' b o (df (br e)) e
 show wpAny _ _ (AS [λv=>Br X.env y v,λv=>Br X.env x v] [u2,u1] >>= λ_=>pure Flow.next) _ _ _
 refine af (wa (Ar (gO I3 hN hj (.inl hy) rw' (λs2 I4=>?_) (.inr hy))))
 refine wa (Ar (gO I4 hN hi (.inl hx) rv (λs3 I5=>assignInOrder_nil (aq ?_)) (.inr hx)))
 rw[List.set_comm _ _ (jh hij)] at I5
 exact⟨_,H1,I5,q1⟩
end
section
variable {X:Cx}{pos:Pos}
def pQ (c:TT) (tb:TS):TS:=λD σ H=>∃W:Nat->St->Hp->Prop,(∃m,W m σ H)/\∀m σ H,W m σ H ->
 c σ H λb H1=>if b=true then ∃N:St->Hp->Prop,(∀σ' H',N σ' H'->∃m',m'<m/\W m' σ' H')/\tb { D with nx:=N,ct:=N,bk:=D.nx } σ H1 else D.nx σ H1
theorem jJ {c:Expr}{body:List Stmt}{tc:TT}{tb:TS}(hp:PassesOwn (model X.prog X.w) X.A X.env X.xe)(hc:PT X c tc)(hb:PSs X body tb):PS X (.While c body [] pos) (pQ tc tb):=by
 intro pins s σ H D I h
 obtain⟨W,⟨m0,w0⟩,turn⟩:=h
 refine wpAny_While (codeAny_whileLoop (λn s'=>∃σ' H',Inv X pins σ' H' s'/\W n σ' H') ?_ m0 ⟨σ,H,I,w0⟩)
 rintro n s1 ⟨σ1,H1,I1,w1⟩
 refine me hp (thn (hc pins s1 σ1 H1 _ I1 (turn n σ1 H1 w1)) λb s2 ⟨H2,I2,q2⟩=>?_)
 cases b with
 |true=>
  obtain⟨N,hN,q2⟩:=q2
  rw[if_pos rfl]
  refine me hp (thn (hb pins s2 σ1 H2 _ I2 q2) λf s3 q3=>?_)
  cases f with
  |next=>
   obtain⟨σ3,H3,I3,n3⟩:=q3
   obtain⟨m',hm,w3⟩:=hN σ3 H3 n3
   exact⟨m',hm,σ3,H3,I3,w3⟩
  |cont=>
   obtain⟨σ3,H3,I3,n3⟩:=q3
   obtain⟨m',hm,w3⟩:=hN σ3 H3 n3
   exact⟨m',hm,σ3,H3,I3,w3⟩
  |brk=>exact q3
  |ret v=>exact q3
 |false=>
  rw[if_neg bh]
  exact ve ⟨σ1,H2,I2,q2⟩
end
structure It where
 go:Nat->Hp->Prop
 yld:Nat->Hp->V->Hp->Prop
 stop:Nat->Hp->Prop
def sY (X:Cx) (pins:List (Addr×Obj)) (H:Hp) (b:Addr):Prop:=
 H b=none/\b≠X.env.locals/\b∉X.fs/\(b∈X.ex\/X.s₀.heap.objs.size<=b)/\(∀x c,X.env.cells.lookup x=some c->c≠b)/\∀p∈X.pn++pins,p.1≠b
theorem Inv.fpOk {X:Cx}{pins:List (Addr×Obj)}{σ:St}{H H':Hp}{s:Shared}{b:Addr}(I:Inv X pins σ H s)(hb:s.heap.objs.size<=b)(hn:H' b=none):sY X pins H' b:=by
 refine⟨hn,wc (cy I.lt hb),I.nofs hb, .inr (cg I.sz hb),λx c e z=>?_,λp hp z=>?_⟩
 ·obtain⟨v,q⟩:=I.cell x c e
  exact absurd (cy q.lt (by rw[z];exact hb)) (j7 _)
 ·exact absurd (cy (br (I.pin p hp).1) (by rw[z];exact hb)) (j7 _)
structure aDc (P:Program)(w:World)(K:aa)(tg:Expr)(J:It)(fp:List Addr)(it:Addr)(tn:Nat->Heap->Prop):Prop where
 mem:it∈fp
 obj:∀i h,tn i h->∀b∈fp,∃o,h.get? b=some o/\∀v,o.data ≠ .cell v
 keep:∀i h h',tn i h->(∀b∈fp,∀o,h.get? b=some o->h'.get? b=some o)->tn i h'
 item:∀(X:Cx),X.prog=P->X.w=w->X.K=K->X.calm=true->∀(i:Nat) (pins:List (Addr×Obj)) (s:Shared) (σ:St) (H:Hp) (E:Value->Shared->Prop),Inv X pins σ H s->(∀b∈fp,sY X pins H b)->tn i s.heap->J.go i H ->
  wpAny (model P w) X.A (wd (.ref it)) (λr s1=>∃u,r=some u /\
   wpAny (model P w) X.A (vf tg (.ref it) u) (λ_ s2=>∃x H',Inv X pins σ H' s2/\RelV x u/\J.yld i H x H'/\tn (i+1) s2.heap/\∀b∈fp,H' b=none) E s1) E s
 done:∀(X:Cx),X.prog=P->X.w=w->X.K=K->X.calm=true->∀(i:Nat) (pins:List (Addr×Obj)) (s:Shared) (σ:St) (H:Hp) (E:Value->Shared->Prop),Inv X pins σ H s->(∀b∈fp,sY X pins H b)->tn i s.heap->J.stop i H ->
  wpAny (model P w) X.A (wd (.ref it)) (λr s1=>r=none/\Inv X pins σ H s1) E s
 self:∀(A:Around) (i:Nat) (s:Shared) (Q:Value->Shared->Prop) (E:Value->Shared->Prop),tn i s.heap->Q (.ref it) s->wpAny (model P w) A (Bd (.ref it)) Q E s
abbrev TI:=St->Hp->(It->Hp->Prop)->Prop
def PIE (X:Cx) (pins:List (Addr×Obj)) (σ:St) (tg:Expr) (R:It->Hp->Prop) (itv:Value) (s2:Shared):Prop:=
 ∃(it:Addr) (fp:List Addr) (tn:Nat->Heap->Prop) (J:It) (H':Hp),itv = .ref it/\Inv X pins σ H' s2/\aDc X.prog X.w X.K tg J fp it tn/\tn 0 s2.heap/\(∀b∈fp,sY X pins H' b)/\R J H'
def PI (X:Cx) (tg iter:Expr) (wi:TI):Prop:=
 ∀(pins:List (Addr×Obj)) (s:Shared) (σ:St) (H:Hp) (R:It->Hp->Prop),Inv X pins σ H s->wi σ H R ->
  wpAny (model X.prog X.w) X.A (eval iter X.env) (λv s1=>wpAny (model X.prog X.w) X.A (Bd v) (PIE X pins σ tg R) X.xe s1) X.xe s
theorem aDX {M : Model}{A : Around}{E : Value -> Shared -> Prop}{s : Shared}{tg : Expr}{it : Addr}{u : Value}{o : Obj}{n : String}{vs : Array Value}{Q : Unit -> Shared -> Prop} (ho : s.heap.get? it = some o) (hc : o.cls = .type n) (hd : o.data = .fields vs)
    (hn : ["enumerate", "zip", "dict_itemiterator", "dict_reverseitemiterator", "odict_iterator", "itertools.zip_longest", "itertools.pairwise"].contains n = false) (hQ : Q () s) : wpAny M A (vf tg (.ref it) u) Q E s := by
  unfold vf
  cases tg <;> first
    |exact aq hQ
    | (cases u <;> first
        |exact aq hQ
        | (refine af (wpAny_load ho ?_)
           rw[hc, hd]
           show wpAny M A (if(["enumerate", "zip", "dict_itemiterator", "dict_reverseitemiterator", "odict_iterator", "itertools.zip_longest", "itertools.pairwise"].contains n && vs[0]? == some (ze _)) = true then _ else _) Q E s
           rw[if_neg (by intro h; rw[hn, ua] at h; cases h)]
           exact aq hQ))
def Itl (K:aa) (a:Addr):It:=
 ⟨λi H=>∃xs x,SqL K H a xs/\xs[i]?=some x,λi H x H'=>H'=H/\∀xs,SqL K H a xs->xs[i]?=some x,λi H=>∃xs,SqL K H a xs/\xs.length<=i⟩
def Itt (K:aa) (a:Addr):It:=
 ⟨λi H=>∃xs x,SqT K H a xs/\xs[i]?=some x,λi H x H'=>H'=H/\∀xs,SqT K H a xs->xs[i]?=some x,λi H=>∃xs,SqT K H a xs/\xs.length<=i⟩
def Itr (lo:Int) (n:Nat):It:=⟨λi _=>i<n,λi H x H'=>H'=H/\x = .int (lo+i),λi _=>n<=i⟩
theorem aCy {P:Program}{w:World}{K:aa}{tg:Expr}(a it:Addr):aDc P w K tg (Itl K a) [it] it (λi h=>h.IsListIter it a i) where
 mem:=by simp
 obj:=λi h st b hb=>by
  have e:b=it:=by simpa using hb
  subst e
  obtain⟨o,e,c,d⟩:=st
  exact⟨o,e,λv z=>by rw[d] at z;cases z⟩
 keep:=λi h h' st k=>st.at λo e=>k it (by simp) o e
 item:=by
  intro X hP hw hK hc i pins s σ H E I hf st hg
  subst hP hw hK
  obtain⟨xs,x,hq,hx⟩:=hg
  obtain⟨its,rv,p,hz⟩:=I.list hq
  obtain⟨u,hu,ru⟩:=rv.get hx
  obtain⟨f0,f1,f2,f3,f4,f5⟩:=hf it (by simp)
  refine wpAny_pyNext_list_item st p.isList (x:=u) (by simpa using hu) λh' st' sb=>?_
  have I1:Inv X pins σ H { s with heap:=h' }:=I.turned (t':=s.toks) (λb o hb e=>(sb.2 b hb).trans e) f0 f1 f3 f4 f5
  obtain⟨o,e,c,d⟩:=id st'
  exact⟨u,rfl,aDX (s:={ s with heap:=h' }) e c d (by decide) ⟨x,H,I1,ru,⟨rfl,λys hy=>by rw[I.list_inj hy hq];exact hx⟩,st',λb hb=>(hf b hb).1⟩⟩
 done:=by
  intro X hP hw hK hc i pins s σ H E I hf st hg
  subst hP hw hK
  obtain⟨xs,hq,hx⟩:=hg
  obtain⟨its,rv,p,hz⟩:=I.list hq
  obtain⟨f0,f1,f2,f3,f4,f5⟩:=hf it (by simp)
  have hl:=rv.length
  exact wpAny_pyNext_list_end (I.ok.hd hc) st p.isList (by simp;omega) λh' eb=>⟨rfl,I.turned (t':=s.toks) (λb o hb e=>eb b o hb e) f0 f1 f3 f4 f5⟩
 self:=λ_ _ _ _ _ st h=>wpAny_pyIter_listiter st h
theorem aAv {P:Program}{w:World}{K:aa}{tg:Expr}(a it:Addr):aDc P w K tg (Itt K a) [it] it (λi h=>h.IsTupleIter it a i) where
 mem:=by simp
 obj:=λi h st b hb=>by
  have e:b=it:=by simpa using hb
  subst e
  obtain⟨o,e,c,d⟩:=st
  exact⟨o,e,λv z=>by rw[d] at z;cases z⟩
 keep:=λi h h' st k=>st.at λo e=>k it (by simp) o e
 item:=by
  intro X hP hw hK hc i pins s σ H E I hf st hg
  subst hP hw hK
  obtain⟨xs,x,hq,hx⟩:=hg
  obtain⟨its,rv,p,hz⟩:=I.tuple hq
  obtain⟨u,hu,ru⟩:=rv.get hx
  obtain⟨f0,f1,f2,f3,f4,f5⟩:=hf it (by simp)
  refine yb st (show s.heap.IsTuple a its.toArray from p) (x:=u) (by simpa using hu) λh' st' sb=>?_
  have I1:Inv X pins σ H { s with heap:=h' }:=I.turned (t':=s.toks) (λb o hb e=>(sb.2 b hb).trans e) f0 f1 f3 f4 f5
  obtain⟨o,e,c,d⟩:=id st'
  exact⟨u,rfl,aDX (s:={ s with heap:=h' }) e c d (by decide) ⟨x,H,I1,ru,⟨rfl,λys hy=>by rw[I.tuple_inj hy hq];exact hx⟩,st',λb hb=>(hf b hb).1⟩⟩
 done:=by
  intro X hP hw hK hc i pins s σ H E I hf st hg
  subst hP hw hK
  obtain⟨xs,hq,hx⟩:=hg
  obtain⟨its,rv,p,hz⟩:=I.tuple hq
  obtain⟨f0,f1,f2,f3,f4,f5⟩:=hf it (by simp)
  have hl:=rv.length
  exact yz (I.ok.hd hc) st (show s.heap.IsTuple a its.toArray from p) (by simp;omega) λh' eb=>⟨rfl,I.turned (t':=s.toks) (λb o hb e=>eb b o hb e) f0 f1 f3 f4 f5⟩
 self:=λ_ _ _ _ _ st h=>y3 st h
theorem aAd {P:Program}{w:World}{K:aa}{tg:Expr}(it:Addr)(lo:Int)(n:Nat):aDc P w K tg (Itr lo n) [it] it (λi h=>IsRangeIter h it (lo+(i:Nat)*1) ((n:Int) - (i:Nat)) 1) where
 mem:=by simp
 obj:=λi h st b hb=>by
  have e:b=it:=by simpa using hb
  subst e
  exact⟨_,st,λv z=>by
   have z':Data.fields _=Data.cell v:=z
   cases z'⟩
 keep:=λi h h' st k=>k it (by simp) _ st
 item:=by
  intro X hP hw hK hc i pins s σ H E I hf st hg
  subst hP hw hK
  obtain⟨f0,f1,f2,f3,f4,f5⟩:=hf it (by simp)
  have W:=Walks.range (prog:=X.prog) (w:=X.w) (I.ok.hd hc) it lo 1 n
  refine W.item i s _ _ hg st λv h' tk hv st' kk=>?_
  obtain⟨t,rfl⟩:=hv
  have I1:Inv X pins σ H { s with heap:=h',toks:=tk }:=I.turned (λb o hb e=>kk b o (by simpa using hb) e) f0 f1 f3 f4 f5
  refine⟨_,rfl,aDX (s:={ s with heap:=h',toks:=tk }) (n:="range_iterator") st' rfl rfl (by decide) ⟨.int (lo+i),H,I1,⟨t,?_⟩,⟨rfl,rfl⟩,st',λb hb=>(hf b hb).1⟩⟩
  rw[AA]
 done:=by
  intro X hP hw hK hc i pins s σ H E I hf st hg
  subst hP hw hK
  obtain⟨f0,f1,f2,f3,f4,f5⟩:=hf it (by simp)
  exact wpAny_pyNext_range_end (I.ok.hd hc) st (by have:n<=i:=hg;omega) λh' eb=>⟨rfl,I.turned (t':=s.toks) (λb o hb e=>eb b o hb e) f0 f1 f3 f4 f5⟩
 self:=λ_ _ _ _ _ st h=>wpAny_pyIter_rangeiter st h
section
variable {X:Cx}{tg:Expr}
theorem yR {pins:List (Addr×Obj)}{σ:St}{H:Hp}{s:Shared}{R:It->Hp->Prop}{E:Value->Shared->Prop}{lo hi:Int}{t u v:Tok}{tk:Nat}(I:Inv X pins σ H s)(h1:-(2 ^ 62)<=lo)(h2:lo<2 ^ 62)(h3:-(2 ^ 62)<=hi)(h4:hi<2 ^ 62)
  (q:R (Itr lo (hi - lo).toNat) H):wpAny (model X.prog X.w) X.A (Bd (.ref s.heap.objs.size)) (PIE X pins σ tg R) E { s with heap:=s.heap.push { cls := .type "range",data := .fields #[.int lo t, .int hi u, .int 1 v] },toks:=tk }:=by
 refine wpAny_pyIter_range (IsRange.new ..) (small_one h1 h2 h3 h4) ?_
 have I1:Inv X pins σ H { s with heap:=s.heap.push { cls := .type "range",data := .fields #[.int lo t, .int hi u, .int 1 v] },toks:=tk }:=I.kept λb o e=>ak _ e
 refine⟨(s.heap.push { cls := .type "range",data := .fields #[.int lo t, .int hi u, .int 1 v] }).objs.size,[(s.heap.push { cls := .type "range",data := .fields #[.int lo t, .int hi u, .int 1 v] }).objs.size],_,_,H,rfl,
  I1.kept (t':=tk) λb o e=>ak _ e,aAd _ lo (hi - lo).toNat,?_,λb hb=>?_,q⟩
 ·have e1:lo+((0:Nat):Int)*1=lo:=by simp
  have e2:(((hi - lo).toNat:Nat):Int) - ((0:Nat):Int)=Builtin.Range.rangeSize lo hi 1:=by rw[rangeSize_one];split <;> omega
  show IsRangeIter _ _ (lo+((0:Nat):Int)*1) ((((hi - lo).toNat:Nat):Int) - ((0:Nat):Int)) 1
  rw[e1,e2]
  exact bg _ rfl
 ·have e:b=(s.heap.push { cls := .type "range",data := .fields #[.int lo t, .int hi u, .int 1 v] }).objs.size:=by simpa using hb
  subst e
  exact I1.fpOk (ay _) (I1.hok.fresh (ay _))
def cX (ta:TA):TI:=λσ H R=>ta σ H λvs H1=>∃j:Int,vs=[.int j]/\-(2 ^ 62)<=j/\j<2 ^ 62/\R (Itr 0 j.toNat) H1
def aAB (ta:TA):TI:=λσ H R=>ta σ H λvs H1=>∃i j:Int,vs=[.int i, .int j]/\(-(2 ^ 62)<=i/\i<2 ^ 62/\-(2 ^ 62)<=j/\j<2 ^ 62)/\R (Itr i (j - i).toNat) H1
theorem bL {a:Expr}{ta:TA}{p pos:Pos}(hg:Gl X "range")(hm:X.mg "range" = none)(ha:PA X [a] ta)(hs:fi [a] X.env=[(false,eval a X.env)]:=by rfl):PI X tg (.Call (.Name "range" p) [a] [] pos) (cX ta):=by
 intro pins s σ H R I h
 refine Call_ (mZ I hg hm boot_range (jk (thn (ha pos pins s σ H _ I h) λus s1 ⟨vs,H1,I1,r1,q1⟩=>?_) hs rfl))
 obtain⟨j,e,q1,q2,q⟩:=q1
 subst e
 cases r1 with
 |cons r rr=>
  cases rr
  obtain⟨t,rfl⟩:=r
  exact call_range_1 (yR I1 (by omega) (by omega) q1 q2 (by simpa using q))
theorem fZ {a b:Expr}{ta:TA}{p pos:Pos}(hg:Gl X "range")(hm:X.mg "range" = none)(ha:PA X [a,b] ta)(hs:fi [a,b] X.env=[(false,eval a X.env),(false,eval b X.env)]:=by rfl)(hs2:fi [b] X.env=[(false,eval b X.env)]:=by rfl) :
  PI X tg (.Call (.Name "range" p) [a,b] [] pos) (aAB ta):=by
 intro pins s σ H R I h
 refine Call_ (mZ I hg hm boot_range (jk (thn (ha pos pins s σ H _ I h) λus s1 ⟨vs,H1,I1,r1,q1⟩=>?_) (by rw[hs,hs2]) (by rw[hs2];rfl)))
 obtain⟨i,j,e,⟨q1,q2,q3,q4⟩,q⟩:=q1
 subst e
 cases r1 with
 |cons r rr=>
  cases rr with
  |cons r' rr=>
   cases rr
   obtain⟨t,rfl⟩:=r
   obtain⟨t',rfl⟩:=r'
   exact call_range_2 (yR I1 q1 q2 q3 q4 q)
def iQ (wi:TI) (g:TG) (tb:TS):TS:=λD σ H=>wi σ H λJ H1=>∃W:Nat->Nat->St->Hp->Prop,(∃m,W 0 m σ H1)/\∀i m σ H,W i m σ H ->
 (J.stop i H/\D.nx σ H)\/(J.go i H/\∃N:St->Hp->Prop,(∀σ' H',N σ' H'->∃m',m'<m/\W (i+1) m' σ' H')/\∀x H',J.yld i H x H'->g x σ H' λσ2 H2=>tb { D with nx:=N,ct:=N,bk:=D.nx } σ2 H2)
def sP (fp:List Addr) (h:Heap):List (Addr×Obj):=fp.filterMap λb=>(h.get? b).map λo=>(b,o)
theorem gT {fp:List Addr}{h:Heap}{b:Addr}{o:Obj}(hb:b∈fp)(e:h.get? b=some o):(b,o)∈sP fp h:=wg.mpr ⟨b,hb,by rw[e];rfl⟩
theorem aBY {fp:List Addr}{h:Heap}{p:Addr×Obj}(hp:p∈sP fp h):p.1∈fp/\h.get? p.1=some p.2:=by
 obtain⟨b,hb,e⟩:=wg.mp hp
 cases q:h.get? b with
 |none=>rw[q] at e;cases e
 |some o=>
  rw[q] at e
  have e':(b,o)=p:=da e
  subst e'
  exact⟨hb,q⟩
theorem Inv.pinned {pins:List (Addr×Obj)}{σ:St}{H:Hp}{s:Shared}{fp:List Addr}(I:Inv X pins σ H s)(hf:∀b∈fp,sY X pins H b)(ho:∀b∈fp,∃o,s.heap.get? b=some o/\∀v,o.data ≠ .cell v):Inv X (pins++sP fp s.heap) σ H s:=
 I.pins_of λp hp=>(b9.mp hp).elim (λz=>I.pin p (dk _ z)) λz=>by
  obtain⟨hb,e⟩:=aBY z
  obtain⟨f0,f1,f2,_⟩:=hf p.1 hb
  obtain⟨o,e',d⟩:=ho p.1 hb
  rw[e] at e';cases e'
  exact⟨e,f0,f1,f2,d⟩
theorem Inv.unpinned {pins pl:List (Addr×Obj)}{σ:St}{H:Hp}{s:Shared}(I:Inv X (pins++pl) σ H s):Inv X pins σ H s:=I.pins_of λp hp=>I.pin p (dk _ (ck _ hp))
theorem cV {iter:Expr}{body:List Stmt}{wi:TI}{g:TG}{tb:TS}{pos:Pos}(hp:PassesOwn (model X.prog X.w) X.A X.env X.xe)(hc:X.calm=true)(hi:PI X tg iter wi)(hg:PG X tg g)(hb:PSs X body tb)
  (hs:∀x,oz iter X.env x=pure x:=by intro _;rfl):PS X (.For tg iter body [] pos) (iQ wi g tb):=by
 intro pins s σ H D I h
 refine wpAny_For (thn (hi pins s σ H _ I h) λv s1 h1=>thn h1 λitv s2 h2=>?_) hs
 obtain⟨it,fp,tn,J,H2,e,I2,T,st2,f2,W,⟨m0,w0⟩,turn⟩:=h2
 subst e
 have stat:∀{H':Hp},(∀b∈fp,H' b=none)->∀b∈fp,sY X pins H' b:=λhn b hb=>⟨hn b hb,(f2 b hb).2⟩
 refine codeAny_forLoop_any (λn s'=>∃i σ' H',Inv X pins σ' H' s'/\tn i s'.heap/\(∀b∈fp,H' b=none)/\W i n σ' H') ?_ m0 ⟨0,σ,H2,I2,st2,λb hb=>(f2 b hb).1,w0⟩
 rintro n s3 ⟨i,σ3,H3,I3,st3,fr3,w3⟩
 rcases turn i n σ3 H3 w3 with⟨stop,qn⟩ | ⟨go,N,hN,step⟩
 ·refine me hp (thn (T.done X rfl rfl rfl hc i pins s3 σ3 H3 X.xe I3 (stat fr3) st3 stop) λr s4 ⟨hr,I4⟩=>?_)
  subst hr
  exact ve ⟨σ3,H3,I4,qn⟩
 ·refine me hp (thn (T.item X rfl rfl rfl hc i pins s3 σ3 H3 X.xe I3 (stat fr3) st3 go) λr s4 ⟨u,hr,h4⟩=>?_)
  subst hr
  refine me hp (thn h4 λ_ s5 ⟨x,H5,I5,r5,y5,st5,fr5⟩=>?_)
  have I5':=I5.pinned (stat fr5) (T.obj _ _ st5)
  refine me hp (thn (hg _ s5 σ3 H5 x u _ I5' r5 (step x H5 y5)) λ_ s6 ⟨σ6,H6,I6,q6⟩=>?_)
  refine me hp (thn (hb _ s6 σ6 H6 _ I6 q6) λf s7 q7=>?_)
  have again:∀{σ7:St}{H7:Hp},Inv X (pins++sP fp s5.heap) σ7 H7 s7->N σ7 H7->∃m,m<n/\∃i σ' H',Inv X pins σ' H' s7/\tn i s7.heap/\(∀b∈fp,H' b=none)/\W i m σ' H':=λ{σ7 H7} I7 n7=>by
   obtain⟨m',hm,w7⟩:=hN σ7 H7 n7
   refine⟨m',hm,i+1,σ7,H7,I7.unpinned,T.keep _ _ _ st5 λb hb o e=>(I7.pin (b,o) (dk _ (dk _ (gT hb e)))).1,λb hb=>?_,w7⟩
   obtain⟨o,e,d⟩:=T.obj _ _ st5 b hb
   exact(I7.pin (b,o) (dk _ (dk _ (gT hb e)))).2.1
  cases f with
  |next=>obtain⟨σ7,H7,I7,n7⟩:=q7;exact again I7 n7
  |cont=>obtain⟨σ7,H7,I7,n7⟩:=q7;exact again I7 n7
  |brk=>obtain⟨σ7,H7,I7,q7⟩:=q7;exact⟨σ7,H7,I7.unpinned,q7⟩
  |ret v=>obtain⟨x7,σ7,H7,I7,r7,q7⟩:=q7;exact⟨x7,σ7,H7,I7.unpinned,r7,q7⟩
end
theorem gS {K:aa}{a:Addr}{xs:List V}{g:TG}{tb:TS}{D:hU}{σ:St}{H:Hp}(Pv:Nat->St->Hp->Prop)(h0:Pv 0 σ H)(hl:∀i σ H,i<=xs.length->Pv i σ H->SqL K H a xs)
  (hs:∀i x σ H,xs[i]?=some x->Pv i σ H->g x σ H λσ2 H2=>tb { D with nx:=Pv (i+1),ct:=Pv (i+1),bk:=D.nx } σ2 H2) (hd:∀σ H,Pv xs.length σ H->D.nx σ H) :
  ∃W:Nat->Nat->St->Hp->Prop,(∃m,W 0 m σ H)/\∀i m σ H,W i m σ H ->
   ((Itl K a).stop i H/\D.nx σ H)\/((Itl K a).go i H/\∃N:St->Hp->Prop,(∀σ' H',N σ' H'->∃m',m'<m/\W (i+1) m' σ' H')/\∀x H',(Itl K a).yld i H x H'->g x σ H' λσ2 H2=>tb { D with nx:=N,ct:=N,bk:=D.nx } σ2 H2):=by
 refine⟨λi m σ H=>m=xs.length - i/\i<=xs.length/\Pv i σ H,⟨xs.length,by simp,bc _,h0⟩,?_⟩
 rintro i m σ H ⟨rfl,hi,p⟩
 have q:=hl i σ H hi p
 by_cases hlt:i<xs.length
 ·refine .inr ⟨⟨xs,xs[i],q,by simp[hlt]⟩,Pv (i+1),λσ' H' p'=>⟨xs.length - (i+1),by omega,rfl,hlt,p'⟩,λx H' y=>?_⟩
  obtain⟨e,y⟩:=y
  subst e
  exact hs i x σ _ (y xs q) p
 ·have e:i=xs.length:=by omega
  subst e
  exact .inl ⟨⟨xs,q,ay _⟩,hd σ H p⟩
theorem kA {K:aa}{a:Addr}{xs:List V}{g:TG}{tb:TS}{D:hU}{σ:St}{H:Hp}(Pv:Nat->St->Hp->Prop)(h0:Pv 0 σ H)(hl:∀i σ H,i<=xs.length->Pv i σ H->SqT K H a xs)
  (hs:∀i x σ H,xs[i]?=some x->Pv i σ H->g x σ H λσ2 H2=>tb { D with nx:=Pv (i+1),ct:=Pv (i+1),bk:=D.nx } σ2 H2) (hd:∀σ H,Pv xs.length σ H->D.nx σ H) :
  ∃W:Nat->Nat->St->Hp->Prop,(∃m,W 0 m σ H)/\∀i m σ H,W i m σ H ->
   ((Itt K a).stop i H/\D.nx σ H)\/((Itt K a).go i H/\∃N:St->Hp->Prop,(∀σ' H',N σ' H'->∃m',m'<m/\W (i+1) m' σ' H')/\∀x H',(Itt K a).yld i H x H'->g x σ H' λσ2 H2=>tb { D with nx:=N,ct:=N,bk:=D.nx } σ2 H2):=by
 refine⟨λi m σ H=>m=xs.length - i/\i<=xs.length/\Pv i σ H,⟨xs.length,by simp,bc _,h0⟩,?_⟩
 rintro i m σ H ⟨rfl,hi,p⟩
 have q:=hl i σ H hi p
 by_cases hlt:i<xs.length
 ·refine .inr ⟨⟨xs,xs[i],q,by simp[hlt]⟩,Pv (i+1),λσ' H' p'=>⟨xs.length - (i+1),by omega,rfl,hlt,p'⟩,λx H' y=>?_⟩
  obtain⟨e,y⟩:=y
  subst e
  exact hs i x σ _ (y xs q) p
 ·have e:i=xs.length:=by omega
  subst e
  exact .inl ⟨⟨xs,q,ay _⟩,hd σ H p⟩
theorem bP {lo:Int}{n:Nat}{g:TG}{tb:TS}{D:hU}{σ:St}{H:Hp}(Pv:Nat->St->Hp->Prop)(h0:Pv 0 σ H)
  (hs:∀i σ H,i<n->Pv i σ H->g (.int (lo+i)) σ H λσ2 H2=>tb { D with nx:=Pv (i+1),ct:=Pv (i+1),bk:=D.nx } σ2 H2) (hd:∀σ H,Pv n σ H->D.nx σ H) :
  ∃W:Nat->Nat->St->Hp->Prop,(∃m,W 0 m σ H)/\∀i m σ H,W i m σ H ->
   ((Itr lo n).stop i H/\D.nx σ H)\/((Itr lo n).go i H/\∃N:St->Hp->Prop,(∀σ' H',N σ' H'->∃m',m'<m/\W (i+1) m' σ' H')/\∀x H',(Itr lo n).yld i H x H'->g x σ H' λσ2 H2=>tb { D with nx:=N,ct:=N,bk:=D.nx } σ2 H2):=by
 refine⟨λi m σ H=>m=n - i/\i<=n/\Pv i σ H,⟨n,by simp,bc _,h0⟩,?_⟩
 rintro i m σ H ⟨rfl,hi,p⟩
 by_cases hlt:i<n
 ·refine .inr ⟨hlt,Pv (i+1),λσ' H' p'=>⟨n - (i+1),by omega,rfl,hlt,p'⟩,λx H' y=>?_⟩
  obtain⟨e,y⟩:=y
  subst e y
  exact hs i σ _ hlt p
 ·have e:i=n:=by omega
  subst e
  exact .inl ⟨ay _,hd σ H p⟩
abbrev R2:=V->V->Hp->VK->Prop
def OpR (X:Cx) (f:Value->Value->Sem Value) (r:R2):Prop:=
 ∀(pins:List (Addr×Obj)) (s:Shared) (σ:St) (H:Hp) (x y:V) (v u:Value) (Q:VK),Inv X pins σ H s->RelV x v->RelV y u->r x y H Q ->
  wpAny (model X.prog X.w) X.A (f v u) (EP X pins σ Q) X.xe s
def UnR (X:Cx) (f:Value->Sem Value) (r:V->Hp->VK->Prop):Prop:=
 ∀(pins:List (Addr×Obj)) (s:Shared) (σ:St) (H:Hp) (x:V) (v:Value) (Q:VK),Inv X pins σ H s->RelV x v->r x H Q ->
  wpAny (model X.prog X.w) X.A (f v) (EP X pins σ Q) X.xe s
def CallR (X:Cx) (f:Value) (r:List V->Hp->VK->Prop):Prop:=
 ∀(pins:List (Addr×Obj)) (s:Shared) (σ:St) (H:Hp) (xs:List V) (us:List Value) (Q:VK),Inv X pins σ H s->Vals xs us->r xs H Q ->
  wpAny (model X.prog X.w) X.A (call f us) (EP X pins σ Q) X.xe s
def aLi (X:Cx) (r:V->Hp->(Bool->Hp->Prop)->Prop):Prop:=
 ∀(pins:List (Addr×Obj)) (s:Shared) (σ:St) (H:Hp) (x:V) (v:Value) (Q:Bool->Hp->Prop),Inv X pins σ H s->RelV x v->r x H Q ->
  wpAny (model X.prog X.w) X.A (truthy v) (TP X pins σ Q) X.xe s
def tOp (r:R2) (ta tb:TE):TE:=λσ H Q=>ta σ H λx H1=>tb σ H1 λy H2=>r x y H2 Q
def tUn (r:V->Hp->VK->Prop) (ta:TE):TE:=λσ H Q=>ta σ H λx H1=>r x H1 Q
inductive RIP (C:Int->Int->Prop) (g:Int->Int->V) (x y:V) (H:Hp) (Q:VK):Prop
 |mk (i j:Int) (hx:x = .int i) (hy:y = .int j) (c:C i j) (q:Q (g i j) H):RIP C g x y H Q
def rI (C:Int->Int->Prop) (g:Int->Int->V):R2:=λx y H Q=>RIP C g x y H Q
inductive aKK (g:Int->Int->V) (x y:V) (H:Hp) (Q:VK):Prop
 |mk (i j:Int) (hx:x = .int i) (hy:y = .int j) (q:Q (g i j) H):aKK g x y H Q
def rI0 (g:Int->Int->V):R2:=λx y H Q=>aKK g x y H Q
def rU (g:Int->V):V->Hp->VK->Prop:=λx H Q=>∃i,x = .int i/\Q (g i) H
section
variable {X:Cx}{a b c:Expr}{ta tb tc:TE}{pos:Pos}
theorem aKf (ha:PE X a ta)(hb:PE X b tb){pins:List (Addr×Obj)}{s:Shared}{σ:St}{H:Hp}{R:V->V->Hp->Prop}(I:Inv X pins σ H s)
  (h:ta σ H λx H1=>tb σ H1 λy H2=>R x y H2) {Q:Value->Shared->Prop}{f:Value->Value->Sem Value}
  (hf:∀v u s2 x y H2,Inv X pins σ H2 s2->RelV x v->RelV y u->R x y H2->wpAny (model X.prog X.w) X.A (f v u) Q X.xe s2) :
  wpAny (model X.prog X.w) X.A (eval a X.env) (λv s₁=>wpAny (model X.prog X.w) X.A (eval b X.env) (λu s₂=>wpAny (model X.prog X.w) X.A (f v u) Q X.xe s₂) X.xe s₁) X.xe s:=by
 refine thn (ha pins s σ H _ I h) λv s1 ⟨x,H1,I1,r1,q1⟩=>?_
 refine thn (hb pins s1 σ H1 _ I1 q1) λu s2 ⟨y,H2,I2,r2,q2⟩=>?_
 exact hf v u s2 x y H2 I2 r1 r2 q2
theorem bA {op:Operator}{r:R2}(ho:OpR X (km op) r)(ha:PE X a ta)(hb:PE X b tb):PE X (.BinOp a op b pos) (tOp r ta tb):=by
 intro pins s σ H Q I h
 exact wpAny_BinOp (aKf ha hb I h λv u s2 x y H2 I2 rx ry q=>ho pins s2 σ H2 x y v u Q I2 rx ry q)
theorem aDJ {op:UnaryOp}{r:V->Hp->VK->Prop}(ho:UnR X (unaryOp op) r)(ha:PE X a ta):PE X (.UnaryOp op a pos) (tUn r ta):=by
 intro pins s σ H Q I h
 exact UnaryOp_ (thn (ha pins s σ H _ I h) λv s1 ⟨x,H1,I1,r1,q1⟩=>ho pins s1 σ H1 x v Q I1 r1 q1)
theorem opI {f:Value->Value->Sem Value}{C:Int->Int->Prop}{g:Int->Int->Int}
  (rule:∀(i j:Int) (t u:Tok) (s:Shared) (Q:Value->Shared->Prop) (E:Value->Shared->Prop),C i j->Q (.int (g i j) s.toks) { s with toks:=s.toks+1 }->wpAny (model X.prog X.w) X.A (f (.int i t) (.int j u)) Q E s) :
  OpR X f (rI C λi j => .int (g i j)):=by
 intro pins s σ H x y v u Q I rx ry h
 obtain⟨i,j,rfl,rfl,hc,q⟩:=h
 obtain⟨t,rfl⟩:=rx
 obtain⟨t',rfl⟩:=ry
 exact rule i j t t' s _ _ hc ⟨.int (g i j),H,I.tok _,⟨_,rfl⟩,q⟩
theorem aKS {f:Value->Value->Sem Value}{g:Int->Int->Int}
  (rule:∀(i j:Int) (t u:Tok) (s:Shared) (Q:Value->Shared->Prop) (E:Value->Shared->Prop),Q (.int (g i j) s.toks) { s with toks:=s.toks+1 }->wpAny (model X.prog X.w) X.A (f (.int i t) (.int j u)) Q E s) :
  OpR X f (rI0 λi j => .int (g i j)):=by
 intro pins s σ H x y v u Q I rx ry h
 obtain⟨i,j,rfl,rfl,q⟩:=h
 obtain⟨t,rfl⟩:=rx
 obtain⟨t',rfl⟩:=ry
 exact rule i j t t' s _ _ ⟨.int (g i j),H,I.tok _,⟨_,rfl⟩,q⟩
theorem aJr {f:Value->Value->Sem Value}{g:Int->Int->Bool}
  (rule:∀(i j:Int) (t u:Tok) (s:Shared) (Q:Value->Shared->Prop) (E:Value->Shared->Prop),Q (.bool (g i j)) s->wpAny (model X.prog X.w) X.A (f (.int i t) (.int j u)) Q E s) :
  OpR X f (rI0 λi j => .bl (g i j)):=by
 intro pins s σ H x y v u Q I rx ry h
 obtain⟨i,j,rfl,rfl,q⟩:=h
 obtain⟨t,rfl⟩:=rx
 obtain⟨t',rfl⟩:=ry
 exact rule i j t t' s _ _ ⟨.bl (g i j),H,I,rfl,q⟩
def aLf (i j:Int):Prop:=0<j/\j<1073741824
def aKI (i j:Int):Prop:=0<=j/\j<=1000000/\i.natAbs<2 ^ 64
def CMul (i j:Int):Prop:=(-(2 ^ 64)<i/\i<2 ^ 64)\/(-(2 ^ 64)<j/\j<2 ^ 64)
theorem CMul.ok {i j:Int}(h:CMul i j):IntMulOk i j:=by
 rcases h with⟨h1,h2⟩ | ⟨h1,h2⟩
 ·exact .of_left (intBits_le_64 h1 h2)
 ·exact .of_right (intBits_le_64 h1 h2)
theorem aHl:OpR X (km .Add) (rI0 λi j => .int (i+j)):=aKS λ_ _ _ _ _ _ _ q=>add_int q
theorem iA:OpR X (km .Sub) (rI0 λi j => .int (i - j)):=aKS λ_ _ _ _ _ _ _ q=>sub_int q
theorem aEq:OpR X (km .Mult) (rI CMul λi j => .int (i*j)):=opI λ_ _ _ _ _ _ _ hc q=>mul_int q hc.ok
theorem aAY:OpR X (km .FloorDiv) (rI aLf λi j => .int (i / j)):=opI λi j _ _ _ _ _ hc q=>by
 have h1:(0:Int)<j:=hc.1
 have h2:j<1073741824:=hc.2
 exact floordiv_int (by omega) (by rw[v8 i (by omega)];exact q) (.inl (PyProof.noPylong_small (by omega)))
theorem gD:OpR X (km .Mod) (rI (λ_ j=>0<j) λi j => .int (i % j)):=opI λi j _ _ _ _ _ hc q=>by
 have h1:(0:Int)<j:=hc
 exact mod_int' (by omega) (by rw[Int.fmod_eq_emod_of_nonneg i (by omega)];exact q)
theorem aHh:OpR X (km .Pow) (rI aKI λi j => .int (i ^ j.toNat)):=opI λ_ _ _ _ _ _ _ hc q=>pow_int_small hc.1 hc.2.1 hc.2.2 q
theorem unI {f:Value->Sem Value}{g:Int->Int}
  (rule:∀(i:Int) (t:Tok) (s:Shared) (Q:Value->Shared->Prop) (E:Value->Shared->Prop),Q (.int (g i) s.toks) { s with toks:=s.toks+1 }->wpAny (model X.prog X.w) X.A (f (.int i t)) Q E s) :
  UnR X f (rU λi => .int (g i)):=by
 intro pins s σ H x v Q I rx h
 obtain⟨i,rfl,q⟩:=h
 obtain⟨t,rfl⟩:=rx
 exact rule i t s _ _ ⟨.int (g i),H,I.tok _,⟨_,rfl⟩,q⟩
theorem xZ:UnR X (unaryOp .USub) (rU λi => .int (-i)):=unI λ_ _ _ _ _ q=>neg_int q
end
section
variable {X:Cx}{a b c:Expr}{ta tb tc:TE}{pos:Pos}
theorem aFg {pins:List (Addr×Obj)}{σ:St}{H:Hp}{s:Shared}{Q:VK}{k k':Bool}(I:Inv X pins σ H s)(q:Q (.bl k) H)(e:k=k'):EP X pins σ Q (.bool k') s:=by
 subst e
 exact⟨.bl k,H,I,rfl,q⟩
theorem aCe:OpR X (i8 .Lt) (rI0 λi j => .bl (decide (i<j))):=aJr λ_ _ _ _ _ _ _ q=>lt_int q
theorem lO:OpR X (i8 .Gt) (rI0 λi j => .bl (decide (j<i))):=aJr λ_ _ _ _ _ _ _ q=>gt_int q
theorem aFu:OpR X (i8 .GtE) (rI0 λi j => .bl (decide (j<=i))):=aJr λ_ _ _ _ _ _ _ q=>ge_int q
theorem aGe:OpR X (i8 .IsNot) (λx y H Q=>y = .non/\Q (.bl (!decide (x = .non))) H):=by
 intro pins s σ H x y v u Q I rx ry h
 obtain⟨rfl,q⟩:=h
 cases ry
 refine isnot_none_gen (aFg I q ?_)
 cases x <;> first
  | (cases rx;rfl)
  | (obtain⟨t,rfl⟩:=rx;rfl)
theorem OpR.or {f:Value->Value->Sem Value}{r r':R2}(h:OpR X f r)(h':OpR X f r'):OpR X f (λx y H Q=>r x y H Q\/r' x y H Q):=by
 intro pins s σ H x y v u Q I rx ry q
 rcases q with q | q
 ·exact h pins s σ H x y v u Q I rx ry q
 ·exact h' pins s σ H x y v u Q I rx ry q
theorem bG (b:Expr){op:CmpOp}(h:op ≠ .In:=by decide)(h2:op ≠ .NotIn:=by decide):uz op b=false:=by
 have e1:(op == CmpOp.In)=false:=by cases op <;> first | rfl | exact absurd rfl h
 have e2:(op == CmpOp.NotIn)=false:=by cases op <;> first | rfl | exact absurd rfl h2
 cases b <;> simp[uz,e1,e2]
theorem cN {op:CmpOp}{r:R2}(ho:OpR X (i8 op) r)(ha:PE X a ta)(hb:PE X b tb)(hm:uz op b=false):PE X (.Compare a [op] [b] pos) (tOp r ta tb):=by
 intro pins s σ H Q I h
 exact wpAny_Compare1 (aKf ha hb I h λv u s2 x y H2 I2 rx ry q=>ho pins s2 σ H2 x y v u Q I2 rx ry q) hm
inductive TBP (x:V) (H:Hp) (Q:Bool->Hp->Prop):Prop
 |mk (k:Bool) (e:x = .bl k) (q:Q k H):TBP x H Q
def cF (t:TE):TT:=λσ H Q=>t σ H λx H'=>TBP x H' Q
theorem bH {op:CmpOp}{r:R2}(ho:OpR X (i8 op) r)(ha:PE X a ta)(hb:PE X b tb)(hm:uz op b=false):PT X (.Compare a [op] [b] pos) (cF (tOp r ta tb)):=by
 intro pins s σ H Q I h
 refine zd (thn (ha pins s σ H _ I h) λv s1 ⟨x,H1,I1,r1,q1⟩=>thn (hb pins s1 σ H1 _ I1 q1) λu s2 ⟨y,H2,I2,r2,q2⟩=>
  thn (ho pins s2 σ H2 x y v u _ I2 r1 r2 q2) λc s3 ⟨z,H3,I3,r3,k,e,q3⟩=>?_) hm
 subst e
 cases r3
 exact iw ⟨H3,I3,q3⟩
def aHt (K:aa) (x:V) (H:Hp) (k:Bool):Prop:=
 match x with
 | .non=>k=false
 | .bl b=>k=b
 | .int i=>k=(i != 0)
 | .str y=>y.length<=ba/\k=((y.length:Int) != 0)
 | .byt y=>y.size<=ba/\k=((y.size:Int) != 0)
 | .ref p=>(∃xs,SqL K H p xs/\k = !xs.isEmpty)\/(∃xs,SqT K H p xs/\k = !xs.isEmpty)\/∃kvs,H p=some (.dK kvs)/\k = !kvs.isEmpty
 |_=>False
theorem aAa {κ:Type}{kvs:List (κ×V)}{vs:List (κ×Value)}(r:KV kvs vs):(!vs.isEmpty) = !kvs.isEmpty:=by
 cases r <;> rfl
theorem oY {xs:List V}{its:List Value}(r:Vals xs its):(!its.toArray.isEmpty) = !xs.isEmpty:=by
 cases r <;> simp
theorem tL:(ba:Nat)<2 ^ 63:=by rw[tj];decide
theorem aFa:aLi X (λx H Q=>∃k,aHt X.K x H k/\Q k H):=by
 intro pins s σ H x v Q I rx h
 obtain⟨k,e,q⟩:=h
 have hl:=tL
 have hs:ba=16777216:=tj
 cases x with
 |non=>
  cases rx
  have e':k=false:=e
  subst e'
  exact truthy_none ⟨H,I,q⟩
 |bl b=>
  cases rx
  have e':k=b:=e
  subst e'
  exact iw ⟨H,I,q⟩
 |int i=>
  obtain⟨t,rfl⟩:=rx
  have e':k=(i != 0):=e
  subst e'
  exact PySem.P.truthy_int ⟨H,I,q⟩
 |str y=>
  obtain⟨t,rfl⟩:=rx
  obtain⟨hy,e'⟩:y.length<=ba/\k=((y.length:Int) != 0):=e
  subst e'
  exact PySem.P.truthy_str (by omega) ⟨H,I.tok _,q⟩
 |byt y=>
  obtain⟨t,rfl⟩:=rx
  obtain⟨hy,e'⟩:y.size<=ba/\k=((y.size:Int) != 0):=e
  subst e'
  exact PySem.W.truthy_bytes (by omega) ⟨H,I.tok _,q⟩
 |ref p=>
  cases rx
  have e':(∃xs,SqL X.K H p xs/\k = !xs.isEmpty)\/(∃xs,SqT X.K H p xs/\k = !xs.isEmpty)\/∃kvs,H p=some (.dK kvs)/\k = !kvs.isEmpty:=e
  rcases e' with⟨xs,hx,e'⟩ | ⟨xs,hx,e'⟩ | ⟨kvs,hx,e'⟩
  ·subst e'
   obtain⟨its,r,pl,hz⟩:=I.list hx
   have hlen:=r.length
   exact wpAny_truthy_list pl.isList (by simp only[av];omega) ⟨H,I.tok _,by rw[oY r];exact q⟩
  ·subst e'
   obtain⟨its,r,pl,hz⟩:=I.tuple hx
   have hlen:=r.length
   exact truthy_tuple pl (by simp only[av];omega) ⟨H,I.tok _,by rw[oY r];exact q⟩
  ·subst e'
   obtain⟨hz,hS,vs,r,m⟩:kvs.length<=ba/\(p == jt)=false/\∃vs,KV kvs vs/\s.heap.DictOf (cI X.prog X.w) p vs:=I.hok p _ hx
   have hlen:kvs.length=vs.length:=qo r
   exact wpAny_truthy_dict hS m (by omega) ⟨H,I.tok _,by rw[aAa r];exact q⟩
 |_=>exact(show False from e).elim
theorem aDh (ha:PE X a ta)(he:∀whole,isTrue a X.env whole=(do let v <- whole;Az a.pos;ya [v] (truthy v))) :
  PT X a (λσ H Q=>ta σ H λx H'=>∃k,aHt X.K x H' k/\Q k H'):=by
 intro pins s σ H Q I h
 exact isTrue_plain (thn (ha pins s σ H _ I h) λv s1 ⟨x,H1,I1,r1,q1⟩=>aFa pins s1 σ H1 x v Q I1 r1 q1) (he _)
theorem zL:OpR X (km .Add) (λx y H Q=>∃i j,x = .str i/\y = .str j/\i.length+j.length<=ba/\Q (.str (i++j)) H):=by
 intro pins s σ H x y v u Q I rx ry h
 obtain⟨i,j,rfl,rfl,hz,q⟩:=h
 obtain⟨t,rfl⟩:=rx
 obtain⟨t',rfl⟩:=ry
 exact add_str (λt' tk=>⟨.str (i++j),H,I.tok _,⟨_,rfl⟩,q⟩) hz
theorem nQ {x:V}{us:List Value}(r:Vals [x] us):∃u,us=[u]/\RelV x u:=by
 cases r with
 |cons r1 r2=>cases r2;exact⟨_,rfl,r1⟩
theorem aFt {x y:V}{us:List Value}(r:Vals [x,y] us):∃u w',us=[u,w']/\RelV x u/\RelV y w':=by
 cases r with
 |cons r1 r2=>
  cases r2 with
  |cons r3 r4=>cases r4;exact⟨_,_,rfl,r1,r3⟩
theorem aDy:CallR X (.builtin "abs") (λxs H Q=>∃i,xs=[.int i]/\Q (.int (if i<0 then -i else i)) H):=by
 intro pins s σ H xs us Q I r h
 obtain⟨i,rfl,q⟩:=h
 obtain⟨u,rfl,t,rfl⟩:=nQ r
 exact call_abs_int λu tk=>⟨.int (if i<0 then -i else i),H,I.tok _,⟨_,rfl⟩,q⟩
theorem aCS (hc:X.calm=true):CallR X (.builtin "max") (λxs H Q=>∃i j,xs=[.int i, .int j]/\Q (.int (if j > i then j else i)) H):=by
 intro pins s σ H xs us Q I r h
 obtain⟨i,j,rfl,q⟩:=h
 obtain⟨u,w',rfl,⟨t,rfl⟩,⟨t',rfl⟩⟩:=aFt r
 refine max_two_ints (I.ok.hd hc) λh' tk k=>⟨_,H,I.kept k,?_,q⟩
 by_cases hj:j > i
 ·rw[if_pos hj,if_pos hj];exact⟨_,rfl⟩
 ·rw[if_neg hj,if_neg hj];exact⟨_,rfl⟩
theorem aBH (hc:X.calm=true):CallR X (.builtin "min") (λxs H Q=>∃i j,xs=[.int i, .int j]/\Q (.int (if j<i then j else i)) H):=by
 intro pins s σ H xs us Q I r h
 obtain⟨i,j,rfl,q⟩:=h
 obtain⟨u,w',rfl,⟨t,rfl⟩,⟨t',rfl⟩⟩:=aFt r
 refine min_two_ints (I.ok.hd hc) λh' tk k=>⟨_,H,I.kept k,?_,q⟩
 by_cases hj:j<i
 ·rw[if_pos hj,if_pos hj];exact⟨_,rfl⟩
 ·rw[if_neg hj,if_neg hj];exact⟨_,rfl⟩
theorem aCw:CallR X (.type "int") (λxs H Q=>(∃i,xs=[.int i]/\Q (.int i) H)\/∃k,xs=[.bl k]/\Q (.int (if k then 1 else 0)) H):=by
 intro pins s σ H xs us Q I r h
 rcases h with⟨i,rfl,q⟩ | ⟨k,rfl,q⟩
 ·obtain⟨u,rfl,t,rfl⟩:=nQ r
  exact call_int_int ⟨.int i,H,I,⟨_,rfl⟩,q⟩
 ·obtain⟨u,rfl,r1⟩:=nQ r
  cases r1
  exact call_int_bool ⟨.int (if k then 1 else 0),H,I.tok _,⟨_,rfl⟩,q⟩
end
section
variable {prog:Program}{w:World}{A:Around}{E:Value->Shared->Prop}{s:Shared}{K:aa}{x dx C f:Addr}{mA:Str->Option Value}{name:Str}{v:Value}
end
theorem RelO.some_of {v:V}{o:Option Value}(r:RelO (some v) o):∃u,o=some u/\RelV v u:=by
 cases o with
 |none=>exact(show False from r).elim
 |some u=>exact⟨u,rfl,r⟩
section
variable {P:Program}{w:World}{H H':Hp}{h h':Heap}{a C dx:Addr}{fs fs':List (Str×V)}
end
section
variable {X:Cx}{pins:List (Addr×Obj)}{σ:St}{H:Hp}{s:Shared}{a C dx:Addr}{fs:List (Str×V)}{f:Str}{v:V}{A:Around}{E:Value->Shared->Prop}
end
section
variable {X:Cx}{o e value:Expr}{f:Str}{pos pos' tpos:Pos}{ta tv:TE}
end
section
variable {X:Cx}{pins:List (Addr×Obj)}{σ:St}{H:Hp}{s:Shared}{A:Around}{E:Value->Shared->Prop}{Q:Value->Shared->Prop}{c:Value}{b:Bool}
end
structure Room (k:Nat)(A:Around):Prop where
 hd:A.handled=none
 dp:A.depth+3*k+5<recursionLimit
 un:A.units+16*k+200<cLine
 gd:A.guards=some []
theorem Room.mono {j k:Nat}{A:Around}(r:Room k A)(h:j<=k):Room j A:=⟨r.hd,by have:=r.dp;omega,by have:=r.un;omega,r.gd⟩
theorem Room.deeper {k:Nat}{A:Around}(r:Room (k+1) A)(env:Env):Room k (A.deeper env):=
 ⟨r.hd,by have:=r.dp;show A.depth+1+3*k+5<_;omega,by have:=r.un;show A.units+3+16*k+200<_;omega,r.gd⟩
theorem Room.depth {k:Nat}{A:Around}(r:Room k A):A.depth<recursionLimit:=by have:=r.dp;omega
theorem Room.units {k:Nat}{A:Around}(r:Room k A):A.units+64<cLine:=by have:=r.un;omega
def aR:TA:=λ_ H Q=>Q [] H
def aC (ta:TE) (tr:TA):TA:=λσ H Q=>ta σ H λx H1=>tr σ H1 λxs H2=>Q (x :: xs) H2
section
variable {X:Cx}{e:Expr}{es:List Expr}{te:TE}{t:TA}{pos:Pos}
theorem aE:PA X [] aR:=λ_ _ _ _ H Q I h=>Calls.spliced_nil ⟨[],H,I, .nil,h⟩
theorem cA (ha:PE X e te)(hr:PA X es t)(hs:fi (e :: es) X.env=(false,eval e X.env) :: fi es X.env:=by rfl):PA X (e :: es) (aC te t):=by
 intro pos pins s σ H Q I h
 rw[hs]
 show wpAny _ _ (spliced ((false,eval e X.env) :: zc pos (fi es X.env))) _ _ s
 refine Calls.spliced_cons (thn (ha pins s σ H _ I h) λu s1 ⟨x,H1,I1,r1,q1⟩=>?_)
 exact thn (hr pos pins s1 σ H1 _ I1 q1) λus s2 ⟨xs,H2,I2,r2,q2⟩=>⟨x :: xs,H2,I2, .cons r1 r2,q2⟩
def gX (t:TA):TE:=λσ H Q=>t σ H λxs H1=>xs.length<=ba/\∀p,H1 p=none->Q (.ref p) (upd H1 p (.tup xs))
def rS (t:TA):TE:=λσ H Q=>t σ H λxs H1=>xs.length<=ba/\∀p,H1 p=none->Q (.ref p) (upd H1 p (.lst xs))
theorem cC {x1}(h:PA X es t):PE X (.Tuple es x1 pos) (gX t):=by
 intro pins s σ H Q I hq
 refine wpAny_Tuple_spliced (thn (h pos pins s σ H _ I hq) λus s1 ⟨xs,H1,I1,r,z,q⟩=>⟨by rw[<- r.length];exact z,?_⟩)
 have hf:H1 s1.heap.objs.size=none:=I1.hok.fresh (ay _)
 refine⟨.ref s1.heap.objs.size,upd H1 s1.heap.objs.size (.tup xs),I1.laid (t':=s1.toks) (λb u e=>ak _ e) (ay _) ?_,rfl,q _ hf⟩
 exact⟨z,us,r,TupN.new _ _⟩
theorem dS (h:PA X es t):PE X (.List es pos) (rS t):=by
 intro pins s σ H Q I hq
 refine wpAny_List_spliced (thn (h pos pins s σ H _ I hq) λus s1 ⟨xs,H1,I1,r,z,q⟩=>⟨by rw[<- r.length];exact z,?_⟩)
 have hf:H1 s1.heap.objs.size=none:=I1.hok.fresh (ay _)
 refine⟨.ref s1.heap.objs.size,upd H1 s1.heap.objs.size (.lst xs),I1.laid (t':=s1.toks) (λb u e=>ak _ e) (ay _) ?_,rfl,q _ hf⟩
 exact⟨z,us,0,r,bg _ rfl⟩
end
abbrev Sp:=List V->Hp->VK->XK->Prop
abbrev CXT:=List Env->Hp->Shared->XK->Value->Shared->Prop
structure aJi (P:Program)(w:World)(K:aa)(mg:Str->Option Value)(base:Heap)(A:Around)(outer:List Env)(s:Shared)(H:Hp):Prop where
 frames:A.frames=some outer
 mod:Mod K mg base
 bs:∀b o,base.get? b=some o->s.heap.get? b=some o/\H b=none
 bsz:base.objs.size<=s.heap.objs.size
 funs:s.heap.FunFrames base outer
 frf:∀b∈frs outer,H b=none
 hok:HOk P w H s.heap
 bare:w9 s.gens
def CE (outer:List Env) (P:Program) (w:World) (H:Hp) (s:Shared) (Q:VK) (u:Value) (s':Shared):Prop:=
 ∃v H',s'.os=s.os/\w9 s'.gens/\Un (frs outer) [] H H' s.heap s'.heap/\HOk P w H' s'.heap/\RelV v u/\Q v H'
def CR (CX:CXT) (outer:List Env) (P:Program) (w:World) (H:Hp) (s:Shared) (Q:VK) (E:XK) (r:Bs) (s':Shared):Prop:=
 match r with
 | .ok (.ret u)=>CE outer P w H s Q u s'
 | .ok _=>False
 | .error e=>CX outer H s E e s'
structure FnOk (P:Program)(w:World)(K:aa)(mg:Str->Option Value)(base:Heap)(CX:CXT)(k:Nat)(f:Addr)(fd:FuncData)(ps:List Str)(sp:Sp):Prop where
 len:∀vs H Q E,sp vs H Q E->vs.length=ps.length
 run:∀(A:Around) (outer:List Env) (s:Shared) (H:Hp) (args:Args) (us:List Value) (vs:List V) (Q:VK) (E:XK),Room k A->aJi P w K mg base A outer s H->A5 s fd args (ps.zip us)->Vals vs us->sp vs H Q E ->
  vg (model P w) A (.call (.ref f) args) (CR CX outer P w H s Q E) s
theorem FnOk.mono {P:Program}{w:World}{K:aa}{mg:Str->Option Value}{base:Heap}{CX:CXT}{j k:Nat}{f:Addr}{fd:FuncData}{ps:List Str}{sp:Sp}(F:FnOk P w K mg base CX j f fd ps sp)(h:j<=k) :
  FnOk P w K mg base CX k f fd ps sp:=⟨F.len,λA outer s H args us vs Q E hr=>F.run A outer s H args us vs Q E (hr.mono h)⟩
section
variable {X:Cx}{pins:List (Addr×Obj)}{σ:St}{H:Hp}{s s':Shared}
theorem Inv.env0 (I:Inv X pins σ H s):aJi X.prog X.w X.K X.mg X.base X.A X.stack s H:=
 ⟨I.ok.frames,I.ok.mod,I.bs,cg I.ok.bsz I.sz,I.stack,I.stkFree,I.hok,I.bare⟩
theorem Inv.after {Q:VK}{u:Value}(I:Inv X pins σ H s)(h:CE X.stack X.prog X.w H s Q u s'):EP X pins σ Q u s':=by
 obtain⟨v,H',os,bare,un,hok,r,q⟩:=h
 obtain⟨hh,g,d,t,os'⟩:=s'
 obtain rfl:os'=s.os:=os
 exact⟨v,H',I.call (h':=hh) (g':=g) (d':=d) (t':=t) (ch:=[]) un hok bare (λb z=>absurd z (by simp)),r,q⟩
end
def bI (sp:Sp) (dvs:List V) (E:XK) (t:TA):TE:=λσ H Q=>t σ H λvs H1=>sp (vs++dvs) H1 Q E
def Binds (K:aa) (fd:FuncData) (ps:List Str) (ds:List Value):Prop:=
 ∀(s:Shared) (us:List Value),K.In s.heap->(us++ds).length=ps.length->A5 s fd ⟨us,[]⟩ (ps.zip (us++ds))
theorem Binds.all {K:aa}{fd:FuncData}{ps:List Str}(h:∀us:List Value,us.length=ps.length->Af fd ⟨us,[]⟩=pure (ps.zip us)):Binds K fd ps []:=λs us _ hl=>by
 rw[ke] at hl ⊢
 exact .of_eq (h us hl)
def lG (CX:CXT) (X:Cx) (E:XK):Prop:=∀(pins:List (Addr×Obj)) (σ:St) (H:Hp) (s:Shared) (e:Value) (s':Shared),Inv X pins σ H s->CX X.stack H s E e s'->X.xe e s'
section
variable {X:Cx}{CX:CXT}{k:Nat}{f C:Addr}{fd:FuncData}{ps:List Str}{sp:Sp}{dvs:List V}{ds:List Value}{E:XK}{x m:Str}{p pos apos:Pos}{e o:Expr}{es:List Expr}{ta:TE}{t:TA}
theorem aHo {pins:List (Addr×Obj)}{σ:St}{H:Hp}{s:Shared}{Q:VK}{us:List Value}{vs:List V}(F:FnOk X.prog X.w X.K X.mg X.base CX k f fd ps sp)(hr:Room k X.A)(hb:Binds X.K fd ps ds)(hd:Vals dvs ds)(hx:lG CX X E)
  (I:Inv X pins σ H s) (r:Vals vs us) (h:sp (vs++dvs) H Q E):wpAny (model X.prog X.w) X.A (call (.ref f) us) (EP X pins σ Q) X.xe s:=by
 have r2:Vals (vs++dvs) (us++ds):=r.append hd
 have hl:(us++ds).length=ps.length:=by rw[<- r2.length];exact F.len _ _ _ _ h
 refine wpAny_call (qg (F.run X.A X.stack s H ⟨us,[]⟩ (us++ds) (vs++dvs) Q E hr I.env0 (hb s us I.kIn hl) r2 h) λr s' hq=>?_)
 cases r with
 |error e=>exact hx pins σ H s e s' I hq
 |ok fl=>
  cases fl with
  |ret u=>exact I.after hq
  |next=>exact kx hq
  |brk=>exact kx hq
  |cont=>exact kx hq
theorem aBF (F:FnOk X.prog X.w X.K X.mg X.base CX k f fd ps sp)(hr:Room k X.A)(hg:Gl X x)(hm:X.mg x=some (.ref f))(hk:o9 X.K (.ref f)=true)(hb:Binds X.K fd ps ds)(hd:Vals dvs ds)(hx:lG CX X E)
  (ha:PA X (e :: es) t) (hdb:(x == ("__debug__" : Str))=false:=by decide) (he:fi (e :: es) X.env=(false,eval e X.env) :: fi es X.env:=by rfl) (hpl:(zc pos (fi es X.env)).any (·.1)=false:=by rfl) :
  PE X (.Call (.Name x p) (e :: es) [] pos) (bI sp dvs E t):=by
 intro pins s σ H Q I h
 refine wj (rG I hg hm ?_ hdb)
 refine PySem.W.callWith_K (h₀:=X.base) I.ok.mod.kin hk (thn (ha pos pins s σ H _ I h) λus s1 ⟨vs,H1,I1,r,q⟩=>⟨I1.kIn,?_⟩) he hpl
 exact aHo F hr hb hd hx I1 r q
end
section
variable {X:Cx}{CX:CXT}{k:Nat}{f C:Addr}{fd:FuncData}{ps ks:List Str}{sp:Sp}{E:XK}{x m:Str}{p pos apos kpos:Pos}{e o:Expr}{es:List Expr}{kws:List Keyword}{te ta:TE}{t tk:TA}{nm:Option Str}
variable {g:List Value->List Value->List Value}{gV:List V->List V->List V}
end
structure kC (N P:List Str)(sc:Scope):Prop where
 kind:sc.kind = .function
 co:sc.isCoroutine=false
 gen:sc.isGenerator=false
 nd:N.Nodup
 pre:N.take P.length=P
 par:∀x∈P,sc.names.lookup x=some .local\/sc.names.lookup x=some .cell
 nofree:∀y∈sc.names,y.2 ≠ .free
theorem tY {kindOf:Str->Option NameKind}{x:Str}:∀{binds:List (Str×Value)}{m:Str->Option Value},(∀v,(x,v)∉binds)->bindL kindOf binds m x=m x
 |[],_,_=>rfl
 | (n,v) :: r,m,h=>by
  unfold bindL
  rw[tY λw hw=>h w (ar _ hw)]
  split
  ·have:x≠n:=by rintro rfl;exact h v b7
   simp[this]
  ·rfl
theorem sU {kindOf:Str->Option NameKind}{x:Str}:∀{binds:List (Str×Value)}{m:Str->Option Value},(∀v,(x,v)∉binds)->bindC kindOf binds m x=m x
 |[],_,_=>rfl
 | (n,v) :: r,m,h=>by
  unfold bindC
  rw[sU λw hw=>h w (ar _ hw)]
  split
  ·rfl
  ·have:x≠n:=by rintro rfl;exact h v b7
   simp[this]
theorem tU {kindOf:Str->Option NameKind}{x:Str}{v:Value}:∀{P:List Str}{vs:List Value}{i:Nat}{m:Str->Option Value},P.Nodup->P[i]?=some x->vs[i]?=some v->kindOf x=some .local ->
  bindL kindOf (P.zip vs) m x=some v
 |[],_,_,_,_,h,_,_=>by simp at h
 |_ :: _,[],_,_,_,_,h,_=>by simp at h
 |p :: P,w :: vs,0,m,nd,h1,h2,hk=>by
  simp at h1 h2;subst h1;subst h2
  show bindL kindOf ((p,w) :: P.zip vs) m p=_
  unfold bindL
  rw[tY λv hv=>(de.mp nd).1 (zg hv).1,if_pos hk]
  simp
 |p :: P,w :: vs,i+1,m,nd,h1,h2,hk=>by
  show bindL kindOf ((p,w) :: P.zip vs) m x=_
  unfold bindL
  exact tU (i:=i) (de.mp nd).2 (by simpa using h1) (by simpa using h2) hk
theorem uU {kindOf:Str->Option NameKind}{x:Str}{v:Value}:∀{P:List Str}{vs:List Value}{i:Nat}{m:Str->Option Value},P.Nodup->P[i]?=some x->vs[i]?=some v->kindOf x≠some .local ->
  bindC kindOf (P.zip vs) m x=some v
 |[],_,_,_,_,h,_,_=>by simp at h
 |_ :: _,[],_,_,_,_,h,_=>by simp at h
 |p :: P,w :: vs,0,m,nd,h1,h2,hk=>by
  simp at h1 h2;subst h1;subst h2
  show bindC kindOf ((p,w) :: P.zip vs) m p=_
  unfold bindC
  rw[sU λv hv=>(de.mp nd).1 (zg hv).1,if_neg hk]
  simp
 |p :: P,w :: vs,i+1,m,nd,h1,h2,hk=>by
  show bindC kindOf ((p,w) :: P.zip vs) m x=_
  unfold bindC
  exact uU (i:=i) (de.mp nd).2 (by simpa using h1) (by simpa using h2) hk
def start (N:List Str) (vs:List V):St:=vs.map some++bp (N.length - vs.length) none
def vC (CX:CXT) (P:Program) (w:World) (K:aa) (mg:Str->Option Value) (base:Heap) (N:List Str) (qual:Str) (scope:Scope) (f:Addr) (cd:Value) (A:Around) (outer:List Env) (s:Shared) (H:Hp) (E:XK):Cx where
 prog:=P
 w:=w
 K:=K
 mg:=mg
 base:=base
 A:=A.deeper (zh qual scope s.heap.objs.size f cd)
 N:=N
 s₀:=s
 H₀:=H
 env:=zh qual scope s.heap.objs.size f cd
 outer:=outer
 stack:=zh qual scope s.heap.objs.size f cd :: outer
 ex:=[]
 calm:=true
 fn:=λ_=>true
 pn:=[]
 xe:=λe s'=>wpAny (model P w) (A.deeper (zh qual scope s.heap.objs.size f cd)) (leaving (zh qual scope s.heap.objs.size f cd) e) (λ_ s''=>CX outer H s E e s'') (λe' s''=>CX outer H s E e' s'') s'
theorem zH {sc:Scope}{n:Nat}{x:Str}(h:sc.names.lookup x=some .cell):∃c,(j5 n sc.names []).lookup x=some c:=by
 have q:=r9 sc.names n [] (.inl h)
 exact f6.mp q
theorem aBg {CX:CXT}{P:Program}{w:World}{K:aa}{mg:Str->Option Value}{base:Heap}{N ps:List Str}{qual:Str}{scope:Scope}{f:Addr}{cd:Value}{A:Around}{outer:List Env}{s s1:Shared}{H:Hp}{E:XK}{us:List Value}{vs:List V}
  (S:kC N ps scope) (hd:A.handled=none) (e0:aJi P w K mg base A outer s H) (hl:vs.length=ps.length) (r:Vals vs us)
  (x:InCallC s s.heap.objs.size (bindL (zh qual scope s.heap.objs.size f cd).kindOf (ps.zip us) λ_=>none) (j5 (s.heap.objs.size+1) scope.names []) (bindC (zh qual scope s.heap.objs.size f cd).kindOf (ps.zip us) λ_=>none) s1) :
  Inv (vC CX P w K mg base N qual scope f cd A outer s H E) [] (start N vs) H s1:=by
 have hpl:ps.length<=N.length:=by have:=congrArg AB S.pre;rw[fg] at this;omega
 obtain⟨h1,tk,rfl,hk⟩:=x.done
 have noA:∀b:Addr,b∉(vC CX P w K mg base N qual scope f cd A outer s H E).ex:=λb z=>absurd (show b∈([]:List Addr) from z) (by simp)
 refine⟨⟨e0.mod,S.kind,rfl,rfl,ay _,λy z c h1 h2=>?_,λy hy=>?_,λy c _ h=>?_,λ_=>hd,Around.frames_deeper e0.frames, .inr ⟨rfl,rfl⟩,λb z=>absurd z (noA b),e0.bs,e0.bsz,λb _ _=>noA b,λb z=>absurd z (noA b),e0.funs,e0.frf⟩,
  rfl,e0.bare,Un.kept hk,⟨_,x.toInCall.ns,λi y v h1 h2 h3=>?_⟩,λy c h=>⟨_,x.cell y c h⟩,e0.hok.fresh (ay _),λy c h=>?_,λp hp=>absurd (show p∈([]:List (Addr×Obj)) from hp) (by simp),e0.hok.kept hk,?_⟩
 ·exact name_of_addr x.apart (fk h1) (fk h2)
 ·have hy:scope.names.lookup y=some .cell\/scope.names.lookup y=some .free:=hy
  rcases hy with hy | hy
  ·exact zH hy
  ·exact absurd rfl (S.nofree _ (fk hy))
 ·exact la (x.above y c (fk h))
 ·have hi:i<vs.length:=by
   unfold start at h2
   by_cases hi:i<vs.length
   ·exact hi
   ·rw[dh (by simpa using hi)] at h2
    rw[my] at h2
    split at h2 <;> cases h2
  have ha:vs[i]?=some v:=by
   unfold start at h2
   rw[cm (by simpa using hi),az] at h2
   cases e:vs[i]? with
   |none=>rw[e] at h2;cases h2
   |some a=>rw[e] at h2;cases h2;rfl
  obtain⟨u,hu,rv⟩:=r.get ha
  have hp:ps[i]?=some y:=by
   rw[<- S.pre,List.getElem?_take_of_lt (by omega)];exact h1
  have ndP:ps.Nodup:=by rw[<- S.pre];exact S.nd.sublist (List.take_sublist _ _)
  refine⟨u,rv,?_⟩
  rcases S.par y (cb hp) with k | k
  ·exact .inl ⟨k,tU ndP hp hu k⟩
  ·obtain⟨c,e⟩:=zH (n:=s.heap.objs.size+1) k
   refine .inr ⟨.inl k,c,e,?_⟩
   have q:=x.cell y c e
   rw[uU ndP hp hu (by show scope.names.lookup y≠_;rw[k];decide)] at q
   exact q
 ·exact e0.hok.fresh (la (x.above y c (fk h)))
 ·unfold start
  show _=N.length
  rw[ao,ai,oh]
  omega
theorem aHz {CX:CXT}{P:Program}{w:World}{K:aa}{mg:Str->Option Value}{base:Heap}{k:Nat}{f:Addr}{name qual:Str}{params:Arguments}{body:List Stmt}{scope:Scope}{dV kV doc pm cdv ct oc:Value}{an od:Option Addr}
  {osl:Array (Option Value)}{N ps:List Str}{sp:Sp} (lk:K.lookup f=some ⟨oc,od, .func (jw name qual params body scope dV kV doc pm an cdv ct),osl⟩) (hcd:xb K cdv qual=true) (S:kC N ps scope)
  (len:∀vs H Q E,sp vs H Q E->vs.length=ps.length)
  (hbody:∀(A:Around) (outer:List Env) (s:Shared) (H:Hp) (vs:List V) (Q:VK) (E:XK),Room k (A.deeper (zh qual scope s.heap.objs.size f cdv))->sp vs H Q E ->
   ∃t,PSs (vC CX P w K mg base N qual scope f cdv A outer s H E) body t/\t { nx:=λ_ H'=>Q .non H',rt:=Q } (start N vs) H) :
  FnOk P w K mg base CX (k+1) f (jw name qual params body scope dV kV doc pm an cdv ct) ps sp:=by
 refine⟨len,λA outer s H args us vs Q E hr e0 hb r hsp=>?_⟩
 have hl:=len _ _ _ _ hsp
 have KX:K.In s.heap:=e0.mod.kin.keeps λb o e=>(e0.bs b o e).1
 have lim:s.heap.NoLimit:=e0.mod.nolimit.keeps λb o e=>(e0.bs b o e).1
 have hkind:∀y∈ps.zip us,scope.names.lookup y.1=some .local\/(scope.names.lookup y.1=some .cell/\((j5 (s.heap.objs.size+1) scope.names []).lookup y.1).isSome=true):=λ⟨n,v⟩ hy=>by
  rcases S.par n (zg hy).1 with q | q
  ·exact .inl q
  ·exact .inr ⟨q,r9 _ _ _ (.inl q)⟩
 refine codeAny_call_function hr.depth (KX _ _ lk) rfl S.co S.gen rfl (PySem.W.codeRec_of KX hcd) (hb _ _ _ _ ?_)
 refine wpAny_newFunctionEnv_cells S.kind hkind λenv he s1 x=>?_
 subst he
 refine⟨lim.keeps x.toInCall.keep,codeAny_func ?_⟩
 obtain⟨t,ht,hq⟩:=hbody A outer s H vs Q E (hr.deeper _) hsp
 have I:Inv (vC CX P w K mg base N qual scope f cdv A outer s H E) [] (start N vs) H s1:=aBg S hr.hd e0 hl r x
 refine fz (ht [] s1 (start N vs) H _ I hq) (λfl s' hs=>?_) λe s' hs=>hs
 have fin:∀{σ':St}{H':Hp}{v:V}{u:Value},Inv (vC CX P w K mg base N qual scope f cdv A outer s H E) [] σ' H' s'->RelV v u->Q v H'->CE outer P w H s Q u s':=
  λ{σ' H' v u} J rv q=>⟨v,H',J.os,J.bare,J.base,J.hok,rv,q⟩
 cases fl with
 |ret u=>
  obtain⟨v,σ',H',J,rv,q⟩:=hs
  exact fin J rv q
 |next=>
  obtain⟨σ',H',J,q⟩:=hs
  exact fin (v:=V.non) (u:=Value.none) J rfl q
 |brk=>
  obtain⟨_,_,_,q⟩:=hs
  exact kx q
 |cont=>
  obtain⟨_,_,_,q⟩:=hs
  exact kx q
section
variable {X:Cx}{x:Str}{p pos:Pos}{e:Expr}{es:List Expr}{t:TA}{id T:String}{r:List V->Hp->VK->Prop}
def tCB (r:List V->Hp->VK->Prop) (t:TA):TE:=λσ H Q=>t σ H λvs H1=>r vs H1 Q
theorem aN (hc:CallR X (.builtin id) r)(hg:Gl X x)(hm:X.mg x=none)(hv:ei x=some (.builtin id))(ha:PA X (e :: es) t)(hn:x≠"__name__":=by decide)(hdb:(x == ("__debug__" : Str))=false:=by decide)
  (he:fi (e :: es) X.env=(false,eval e X.env) :: fi es X.env:=by rfl) (hpl:(zc pos (fi es X.env)).any (·.1)=false:=by rfl):PE X (.Call (.Name x p) (e :: es) [] pos) (tCB r t):=by
 intro pins s σ H Q I h
 refine wj (mZ I hg hm hv ?_ hn hdb)
 exact PyProof.Rows.callWith_builtin1 (thn (ha pos pins s σ H _ I h) λus s1 ⟨vs,H1,I1,r1,q1⟩=>hc pins s1 σ H1 vs us Q I1 r1 q1) he hpl
theorem bE (hc:CallR X (.type T) r)(hg:Gl X x)(hm:X.mg x=none)(hv:ei x=some (.type T))(ha:PA X (e :: es) t)(hn:x≠"__name__":=by decide)(hdb:(x == ("__debug__" : Str))=false:=by decide)
  (he:fi (e :: es) X.env=(false,eval e X.env) :: fi es X.env:=by rfl) (hpl:(zc pos (fi es X.env)).any (·.1)=false:=by rfl):PE X (.Call (.Name x p) (e :: es) [] pos) (tCB r t):=by
 intro pins s σ H Q I h
 refine wj (mZ I hg hm hv ?_ hn hdb)
 exact jk (thn (ha pos pins s σ H _ I h) λus s1 ⟨vs,H1,I1,r1,q1⟩=>hc pins s1 σ H1 vs us Q I1 r1 q1) he hpl
end
end L2
namespace HT
open PySem PyProof.Rows
section
open PySem.SeqAt
open PySem.AutoSeq1 (wpAny_loadPart')
open PySem.MeetsSeq PySem.MeetsSeq2 PySem.MeetsSeq3
end
section
variable {prog:Program}{w:World}{A:Around}{E:Value->Shared->Prop}{s:Shared}
theorem cat_tup {t b:Addr}{vs ws:List Value}{Q:Value->Shared->Prop}(ht:IsTup s.heap t vs.toArray)(hb:IsTup s.heap b ws.toArray)(hv:vs≠[])
  (h1:ws=[]->Q (.ref t) s) (h2:ws≠[]->Q (.ref s.heap.objs.size) { s with heap:=s.heap.push { cls := .type "tuple",data := .seq (vs++ws).toArray } })
  (hsz:vs.length+ws.length<=ba):wpAny (model prog w) A (km .Add (.ref t) (.ref b)) Q E s:=by
 obtain⟨⟨cls,dd,data,sl⟩,ho,hc,n,hd⟩:=id ht
 obtain⟨⟨cls2,dd2,data2,sl2⟩,ho2,hc2,n2,hd2⟩:=id hb
 simp only at hc hd hc2 hd2
 subst hc hd hc2 hd2
 have e:vs.toArray++ws.toArray=(vs++ws).toArray:=by simp
 by_cases hw:ws=[]
 ·exact Be ⟨_,ho,rfl⟩ ⟨_,ho2,rfl⟩ yn AU sr qq (qh _ _)
   (tuple_addW1 t b vs.toArray ws.toArray n n2 dd dd2 sl sl2 (by simpa using hv) (by simp[hw])) ⟨ho,ho2,h1 hw⟩
 ·refine Be ⟨_,ho,rfl⟩ ⟨_,ho2,rfl⟩ yn AU sr qq (qh _ _)
   (tuple_addW2 t b vs.toArray ws.toArray n n2 dd dd2 sl sl2 (by simpa using hv) (by simpa using hw) (by rw[av,av];exact hsz)) ⟨ho,ho2,?_⟩
  rw[e]
  exact h2 hw
def sIx (n d:Nat):Option Int->Nat
 |none=>d
 |some v=>if v<0 then(v+(n:Int)).toNat else min v.toNat n
theorem aIy (n d:Nat)(hd:d<=n)(o:Option Int):sIx n d o<=n:=by
 cases o with
 |none=>exact hd
 |some v=>
  show(if v<0 then(v+(n:Int)).toNat else min v.toNat n)<=n
  by_cases hv:v<0
  ·rw[if_pos hv];omega
  ·rw[if_neg hv];exact Nat.min_le_right _ _
theorem aAQ (v:Int)(n d:Nat):(if v<0 then max (v+(n:Int)) 0 else min v (n:Int))=((sIx n d (some v):Nat):Int):=by
 show(if v<0 then max (v+(n:Int)) 0 else min v (n:Int))=(((if v<0 then(v+(n:Int)).toNat else min v.toNat n):Nat):Int)
 by_cases hv:v<0
 ·simp only[if_pos hv];omega
 ·simp only[if_neg hv];omega
theorem aAA (lo hi:Option Int)(n:Nat):pb lo hi 1 (n:Int)=(((sIx n 0 lo:Nat):Int),((sIx n n hi:Nat):Int)):=by
 have h1:¬ ((1:Int)<0):=by omega
 unfold pb
 simp only[h1,if_false]
 refine yc ?_ ?_
 ·cases lo with
  |none=>rfl
  |some v=>exact aAQ v n 0
 ·cases hi with
  |none=>rfl
  |some v=>exact aAQ v n n
theorem aAk (i j:Nat):l7 (i:Int) (j:Int) 1=j - i:=by
 unfold l7
 have h1:(1:Int) > 0:=by omega
 simp only[h1,if_true,Bf]
 split <;> omega
theorem oX {v:Value}{o:Option Int}{Q:Option Int->Shared->Prop}(p:IsPart v o)(h:Q o s):wpAny (model prog w) A (Builtin.Slice.slicePartIndex v) Q E s:=by
 cases p with
 |none=>exact slicePart_none h
 |int i t=>exact slicePart_int h
theorem sliceApplied_gen {sl:Addr}{vl vu:Value}{lo hi:Option Int}{n:Nat}{Q:Int×Int×Nat->Shared->Prop}(hs:s.heap.IsSliceOf sl vl vu .none)(pl:IsPart vl lo)(pu:IsPart vu hi)
  (h:Q (((sIx n 0 lo:Nat):Int),1,sIx n n hi - sIx n 0 lo) s):wpAny (model prog w) A (v9 (.ref sl) (pure (n:Int))) Q E s:=by
 obtain⟨os,hos,hcs,hds⟩:=id hs
 unfold v9 Builtin.Slice.sliceFields
 refine af (af (gy hos hds (x:=vl) rfl (af (gy hos hds (x:=vu) rfl (af (gy hos hds (x := .none) rfl (aq ?_)))))))
 refine af (slicePart_none ?_)
 show wpAny _ _ (if((1:Int) == 0)=true then _ else _) _ _ s
 rw[if_neg (by decide)]
 refine af (oX pl (af (oX pu (af (aq ?_)))))
 show wpAny _ _ (match pb lo hi 1 (n:Int) with | (lo,hi)=>pure (lo,(1:Int),l7 lo hi 1)) _ _ s
 rw[aAA lo hi n]
 show wpAny _ _ (pure (((sIx n 0 lo:Nat):Int),(1:Int),l7 ((sIx n 0 lo:Nat):Int) ((sIx n n hi:Nat):Int) 1)) _ _ s
 rw[aAk]
 exact aq h
theorem aEe (xs:Array Value)(i k:Nat):((aw k).filterMap λ(m:Nat)=>xs[((i:Int)+(m:Int)*1).toNat]?).toArray=((xs.toList.drop i).take k).toArray:=by
 have e:(λ(m:Nat)=>xs[((i:Int)+(m:Int)*1).toNat]?)=λm=>xs[i+m]?:=by
  funext m
  have:((i:Int)+(m:Int)*1).toNat=i+m:=by omega
  rw[this]
 rw[e]
 have:=pick_run xs i k
 rw[List.filterMap_map] at this
 have e2:((λx=>xs[x]?)∘λx=>i+x)=λm=>xs[i+m]?:=rfl
 rw[e2] at this
 rw[this]
theorem getItem_tuple_cut {t sl:Addr}{items:Array Value}{vl vu:Value}{lo hi:Option Int}{Q:Value->Shared->Prop}(ht:IsTup s.heap t items)(hs:s.heap.IsSliceOf sl vl vu .none)(pl:IsPart vl lo)(pu:IsPart vu hi)
  (hw:¬ (sIx items.size 0 lo=0/\sIx items.size items.size hi=items.size))
  (h:Q (.ref s.heap.objs.size) { s with heap:=s.heap.push { cls := .type "tuple",data := .seq ((items.toList.drop (sIx items.size 0 lo)).take (sIx items.size items.size hi - sIx items.size 0 lo)).toArray } })
  (hsz:items.size<=ba):wpAny (model prog w) A (yd (.ref t) (.ref sl)) Q E s:=by
 have htake:sizeOk (.seq ((items.toList.drop (sIx items.size 0 lo)).take (sIx items.size items.size hi - sIx items.size 0 lo)).toArray):=by
  show((items.toList.drop (sIx items.size 0 lo)).take (sIx items.size items.size hi - sIx items.size 0 lo)).toArray.size<=ba
  rw[av,fg,k6,gf]
  omega
 have hj:sIx items.size items.size hi<=items.size:=aIy _ _ (ay _) hi
 obtain⟨os,hos,hcs,hds⟩:=id hs
 have hTs:s.TypeIs (.ref sl) "slice":=⟨os,hos,hcs⟩
 unfold yd
 try with_reducible refine ef ?_
 first | refine af (aq ?_) | skip
 refine af (wpAny_sequenceKey ht.typeIs (by decide) ?_)
 refine af (gi (name:=oi "__getitem__") ht.typeIs f7
  (fc f7 ht.typeIs AD ?_ (args_tuple_getitem _ _)))
 show wpAny _ _ (o6 (.ref t) >>= _) _ _ s
 refine af (tupleItemsOf_ ht ?_)
 refine af (zi hTs ?_)
 rw[if_pos (by decide)]
 refine af (sliceApplied_gen hs pl pu ?_)
 have hno:¬ ((((sIx items.size 0 lo:Nat):Int) == 0 && (1:Int) == 1 && (sIx items.size items.size hi - sIx items.size 0 lo) == items.size)=true):=by
  intro q
  rw[dv,dv] at q
  have q1:((sIx items.size 0 lo:Nat):Int)=0:=Bt q.1.1
  have q2:sIx items.size items.size hi - sIx items.size 0 lo=items.size:=Bt q.2
  exact hw ⟨by omega,by omega⟩
 show wpAny _ _ (if(((sIx items.size 0 lo:Nat):Int) == 0 && (1:Int) == 1 && (sIx items.size items.size hi - sIx items.size 0 lo) == items.size)=true then _ else _) _ _ s
 rw[if_neg hno,aEe]
 first
  |exact af (m:=mf _) (fb (aq ⟨_,rfl,aq h⟩) htake)
  |exact af (m:=mf _) (fb (af (aq (aq ⟨_,rfl,aq h⟩))) htake)
  |exact af (af (m:=mf _) (fb (aq (aq ⟨_,rfl,aq h⟩)) htake))
  |exact af (af (m:=mf _) (fb (aq ⟨_,rfl,aq h⟩) htake))
end
end HT
namespace L2
open PySem PySem.Spec PyProof.Rows
abbrev TO:=St->Hp->(Option Int->Hp->Prop)->Prop
def PO (X:Cx) (e:Option Expr) (t:TO):Prop:=
 ∀(pins:List (Addr×Obj)) (s:Shared) (σ:St) (H:Hp) (Q:Option Int->Hp->Prop),Inv X pins σ H s->t σ H Q ->
  wpAny (model X.prog X.w) X.A (evalPart e X.env) (λu s'=>∃o H',Inv X pins σ H' s'/\IsPart u o/\Q o H') X.xe s
def kQ:TO:=λ_ H Q=>Q none H
def aAr (t:TE):TO:=λσ H Q=>t σ H λx H1=>∃i,x = .int i/\Q (some i) H1
theorem dE {ns:List Int}:∀{us:List Value},Vals (ns.map V.int) us->IntsAre us ns:=by
 induction ns with
 |nil=>intro us r;rw[qi] at r;cases r;exact .nil
 |cons n ns ih=>
  intro us r
  rw[b8] at r
  cases r with
  |cons r1 r2=>
   obtain⟨t,e⟩:=r1
   subst e
   exact .cons n t (ih r2)
section
variable {X:Cx}{e:Expr}{te:TE}{lo hi:Option Expr}{tl th:TO}{pos p2:Pos}
theorem nY:PO X none kQ:=by
 intro pins s σ H Q I h
 rw[evalPart_none]
 exact aq ⟨none,H,I, .none,h⟩
theorem mK (h:PE X e te):PO X (some e) (aAr te):=by
 intro pins s σ H Q I hw
 rw[evalPart_some]
 refine thn (h pins s σ H _ I hw) λu s1 ⟨x,H1,I1,r1,q1⟩=>?_
 obtain⟨i,rfl,q⟩:=q1
 obtain⟨t,rfl⟩:=r1
 exact⟨some i,H1,I1, .int i t,q⟩
def SlR (X:Cx) (r:V->Option Int->Option Int->Hp->VK->Prop):Prop:=
 ∀(pins:List (Addr×Obj)) (s:Shared) (σ:St) (H:Hp) (x:V) (v vl vu:Value) (lo hi:Option Int) (sl:Addr) (Q:VK),Inv X pins σ H s->RelV x v->s.heap.IsSliceOf sl vl vu .none->IsPart vl lo->IsPart vu hi->r x lo hi H Q ->
  ∃T id,typeLookup (.type T) "__getitem__" = pure (some (.builtin id))/\s.TypeIs v T/\wpAny (model X.prog X.w) X.A (yd v (.ref sl)) (EP X pins σ Q) X.xe s
theorem SlR.or {r r':V->Option Int->Option Int->Hp->VK->Prop}(h:SlR X r)(h':SlR X r'):SlR X (λx lo hi H Q=>r x lo hi H Q\/r' x lo hi H Q):=by
 intro pins s σ H x v vl vu lo hi sl Q I rx hs pl pu q
 rcases q with q | q
 ·exact h pins s σ H x v vl vu lo hi sl Q I rx hs pl pu q
 ·exact h' pins s σ H x v vl vu lo hi sl Q I rx hs pl pu q
def tSl (r:V->Option Int->Option Int->Hp->VK->Prop) (te:TE) (tl th:TO):TE:=λσ H Q=>te σ H λx H1=>tl σ H1 λl H2=>th σ H2 λu H3=>r x l u H3 Q
theorem iX {r:V->Option Int->Option Int->Hp->VK->Prop}(hr:SlR X r)(he:PE X e te)(hl:PO X lo tl)(hu:PO X hi th):PE X (.Subscript e (.Slice lo hi none p2) pos) (tSl r te tl th):=by
 intro pins s σ H Q I h
 refine Subscript_ (thn (he pins s σ H _ I h) λv s1 ⟨x,H1,I1,r1,q1⟩=>?_)
 refine wpAny_Slice (thn (hl pins s1 σ H1 _ I1 q1) λvl s2 ⟨l,H2,I2,pl,q2⟩=>thn (hu pins s2 σ H2 _ I2 q2) λvu s3 ⟨u,H3,I3,pu,q3⟩=>?_)
 rw[evalPart_none]
 refine aq ?_
 have I4:Inv X pins σ H3 { s3 with heap:=s3.heap.push { cls := .type "slice",data := .fields #[vl,vu, .none] } }:=I3.kept (t':=s3.toks) λb ob q=>ak _ q
 obtain⟨T,id,hT,ht,hg⟩:=hr pins { s3 with heap:=s3.heap.push { cls := .type "slice",data := .fields #[vl,vu, .none] } } σ H3 x v vl vu l u s3.heap.objs.size Q I4 r1 (Heap.IsSliceOf.new ..) pl pu q3
 show wpAny (model X.prog X.w) X.A (AV e (.Slice lo hi none p2) v (.ref s3.heap.objs.size)) (EP X pins σ Q) X.xe { s3 with heap:=s3.heap.push { cls := .type "slice",data := .fields #[vl,vu, .none] } }
 exact tail_any (ops:=[.ref s3.heap.objs.size,v]) ht hT hg (by with_unfolding_all rfl)
def rF (xs:List V) (lo hi:Option Int):List V:=(xs.drop (HT.sIx xs.length 0 lo)).take (HT.sIx xs.length xs.length hi - HT.sIx xs.length 0 lo)
theorem nP (xs:List V)(lo hi:Option Int):(rF xs lo hi).length<=xs.length:=by
 unfold rF
 rw[fg,k6]
 omega
def aLl (K:aa):V->Option Int->Option Int->Hp->VK->Prop:=λx lo hi H Q=>∃a xs,x = .ref a/\SqT K H a xs /\
 ¬ (HT.sIx xs.length 0 lo=0/\HT.sIx xs.length xs.length hi=xs.length)/\∀p,H p=none->Q (.ref p) (upd H p (.tup (rF xs lo hi)))
theorem aHF:SlR X (aLl X.K):=by
 intro pins s σ H x v vl vu lo hi sl Q I rx hs pl pu h
 obtain⟨a,xs,rfl,hx,hw,q⟩:=h
 cases rx
 obtain⟨its,r,ht,hz⟩:=I.tuple hx
 have hlen:its.toArray.size=xs.length:=by rw[av];exact r.length.symm
 refine⟨"tuple",_,f7.lookup,ht.typeIs,?_⟩
 refine HT.getItem_tuple_cut ht hs pl pu (by rw[hlen];exact hw) ?_ (by rw[hlen];exact hz)
 rw[hlen]
 refine⟨.ref s.heap.objs.size,_,I.laid (t':=s.toks) (o := .tup (rF xs lo hi)) (λb ob q=>ak _ q) (ay _) ?_,rfl,q _ (I.hok.fresh (ay _))⟩
 exact⟨cg (nP xs lo hi) hz,_,(r.drop (HT.sIx xs.length 0 lo)).take (HT.sIx xs.length xs.length hi - HT.sIx xs.length 0 lo),TupN.new _ _⟩
def aJv (K:aa):R2:=λx y H Q=>∃a b xs ys,x = .ref a/\y = .ref b/\SqT K H a xs/\SqT K H b ys/\xs≠[]/\xs.length+ys.length<=ba /\
 (ys=[]->Q (.ref a) H)/\(ys≠[]->∀p,H p=none->Q (.ref p) (upd H p (.tup (xs++ys))))
theorem Vals.nil_iff {xs:List V}{us:List Value}(r:Vals xs us):us=[]↔xs=[]:=by
 cases r with
 |nil=>simp
 |cons _ _=>simp
theorem aFU:OpR X (km .Add) (aJv X.K):=by
 intro pins s σ H x y v u Q I rx ry h
 obtain⟨a,b,xs,ys,rfl,rfl,ha,hb,hx,hz,q1,q2⟩:=h
 cases rx
 cases ry
 obtain⟨its,r1,p1,_⟩:=I.tuple ha
 obtain⟨its2,r2,p2,_⟩:=I.tuple hb
 refine HT.cat_tup p1 p2 (λz=>hx (r1.nil_iff.mp z)) (λz=>⟨.ref a,H,I,rfl,q1 (r2.nil_iff.mp z)⟩) (λz=>?_) (by rw[<- r1.length,<- r2.length];exact hz)
 refine⟨.ref s.heap.objs.size,_,I.laid (t':=s.toks) (o := .tup (xs++ys)) (λb ob q=>ak _ q) (ay _) ?_,rfl,q2 (λw=>z (r2.nil_iff.mpr w)) _ (I.hok.fresh (ay _))⟩
 exact⟨by rw[ao];exact hz,_,r1.append r2,TupN.new _ _⟩
end
def ixN (n:Nat) (i:Int):Option Nat:=if 0<=i then(if i<n then some i.toNat else none) else if -(n:Int)<=i then some (i+n).toNat else none
def atI {α:Type} (xs:List α) (i:Int):Option α:=(ixN xs.length i).bind λj=>xs[j]?
theorem aCx {n:Nat}{i:Int}{j:Nat}(h:ixN n i=some j):AW i n=some j/\j<n/\-(n:Int)<=i/\i<n:=by
 unfold ixN at h
 by_cases h0:0<=i
 ·rw[if_pos h0] at h
  by_cases h1:i<n
  ·rw[if_pos h1] at h
   have e:i.toNat=j:=da h
   exact⟨by rw[Bu h0 h1,e],by omega,by omega,h1⟩
  ·rw[if_neg h1] at h;cases h
 ·rw[if_neg h0] at h
  by_cases h1:-(n:Int)<=i
  ·rw[if_pos h1] at h
   have e:(i+n).toNat=j:=da h
   exact⟨by rw[Bg (by omega) h1,e],by omega,h1,by omega⟩
  ·rw[if_neg h1] at h;cases h
theorem aCE {α:Type}{xs:List α}{i:Int}{v:α}(h:atI xs i=some v):∃j,AW i xs.length=some j/\xs[j]?=some v/\j<xs.length/\-(xs.length:Int)<=i/\i<xs.length:=by
 unfold atI at h
 cases e:ixN xs.length i with
 |none=>rw[e] at h;cases h
 |some j=>
  rw[e] at h
  obtain⟨h1,h2,h3,h4⟩:=aCx e
  exact⟨j,h1,h,h2,h3,h4⟩
theorem aBT {α:Type}{xs:List α}{j:Nat}{v:α}(h:xs[j]?=some v):atI xs (j:Int)=some v:=by
 have hj:j<xs.length:=(au.mp h).1
 have e:ixN xs.length (j:Int)=some j:=by
  unfold ixN
  rw[if_pos (by omega),if_pos (by omega)];simp
 unfold atI;rw[e];exact h
def aGj (b:Expr):Prop:=∀o i,AE b false o i=operate [o,i] (yd o i)
def IxR (X:Cx) (r:R2):Prop:=
 ∀(value slice:Expr) (pins:List (Addr×Obj)) (s:Shared) (σ:St) (H:Hp) (x y:V) (v u:Value) (Q:VK),Inv X pins σ H s->RelV x v->RelV y u->r x y H Q ->
  AE slice false v u=operate [v,u] (yd v u)->wpAny (model X.prog X.w) X.A (AV value slice v u) (EP X pins σ Q) X.xe s
def MtR (X:Cx) (id:String) (r:V->List V->Hp->VK->Prop):Prop:=
 ∀(pins:List (Addr×Obj)) (s:Shared) (σ:St) (H:Hp) (x:V) (xs:List V) (v:Value) (us:List Value) (Q:VK),Inv X pins σ H s->RelV x v->Vals xs us->r x xs H Q ->
  wpAny (model X.prog X.w) X.A (call (.builtin id) (v :: us)) (EP X pins σ Q) X.xe s
section
variable {X:Cx}{a b:Expr}{ta tb:TE}{pos:Pos}
theorem IxR.or {r r':R2}(h:IxR X r)(h':IxR X r'):IxR X (λx y H Q=>r x y H Q\/r' x y H Q):=by
 intro value slice pins s σ H x y v u Q I rx ry q hs
 rcases q with q | q
 ·exact h value slice pins s σ H x y v u Q I rx ry q hs
 ·exact h' value slice pins s σ H x y v u Q I rx ry q hs
theorem aY {r:R2}(hr:IxR X r)(ha:PE X a ta)(hb:PE X b tb)(hs:aGj b):PE X (.Subscript a b pos) (tOp r ta tb):=by
 intro pins s σ H Q I h
 exact Subscript_ (aKf ha hb I h λv u s2 x y H2 I2 rx ry q=>hr a b pins s2 σ H2 x y v u Q I2 rx ry q (hs _ _))
def aJh (K:aa):R2:=λx y H Q=>∃p xs i v,x = .ref p/\y = .int i/\SqL K H p xs/\atI xs i=some v/\Q v H
def aJj (K:aa):R2:=λx y H Q=>∃p xs i v,x = .ref p/\y = .int i/\SqT K H p xs/\atI xs i=some v/\Q v H
theorem aGB:IxR X (aJh X.K):=by
 intro value slice pins s σ H x y v u Q I rx ry h hs
 obtain⟨p,xs,i,z,rfl,rfl,hq,he,q⟩:=h
 cases rx
 obtain⟨t,rfl⟩:=ry
 obtain⟨its,r,pl,hz⟩:=I.list hq
 obtain⟨j,h1,h2,h3,h4,h5⟩:=aCE he
 obtain⟨w,ew,rw'⟩:=r.get h2
 have hl:=r.length
 have hn:=tL
 have fin:EP X pins σ Q w s:=⟨z,H,I,rw',q⟩
 by_cases h0:0<=i
 ·have hj:i.toNat=j:=by
   rw[Bu h0 h5] at h1
   exact da h1
  exact item_listR pl.isList h0 (by omega) (by rw[hj];simpa using ew) fin hs
 ·have hj:(i+(its.toArray.size:Int)).toNat=j:=by
   rw[Bg (by omega) h4] at h1
   rw[av,<- hl]
   exact da h1
  exact y4 (x:=w) pl.isList.typeIs slot_list_getitem.lookup
   (wpAny_getItem_list_neg (Q:=λr s'=>r=w/\EP X pins σ Q r s') pl.isList (by omega) (by rw[av] <;> omega) (by omega) (by rw[hj];simpa using ew) ⟨rfl,fin⟩) hs
theorem aIC:IxR X (aJj X.K):=by
 intro value slice pins s σ H x y v u Q I rx ry h hs
 obtain⟨p,xs,i,z,rfl,rfl,hq,he,q⟩:=h
 cases rx
 obtain⟨t,rfl⟩:=ry
 obtain⟨its,r,pl,hz⟩:=I.tuple hq
 obtain⟨j,h1,h2,h3,h4,h5⟩:=aCE he
 obtain⟨w,ew,rw'⟩:=r.get h2
 have hl:=r.length
 have hn:=tL
 have fin:EP X pins σ Q w s:=⟨z,H,I,rw',q⟩
 exact y4 (x:=w) pl.typeIs slot_tuple_getitem.lookup
  (getItem_tuple (j:=j) (Q:=λr s'=>r=w/\EP X pins σ Q r s') pl (by omega) (by omega) (by rw[av,<- hl];exact h1) (by simpa using ew) ⟨rfl,fin⟩) hs
theorem aAx (its:List Value)(n j:Nat)(u:Value):fv (·.setIfInBounds j u) { cls := .type "list",data := .seq its.toArray n }={ cls := .type "list",data := .seq (its.set j u).toArray n }:=by
 simp[fv]
theorem Inv.lst {pins:List (Addr×Obj)}{σ:St}{H:Hp}{s:Shared}{p:Addr}{xs:List V}(I:Inv X pins σ H s)(h:H p=some (.lst xs)) :
  ∃(its:List Value) (n:Nat),Vals xs its/\s.heap.get? p=some { cls := .type "list",data := .seq its.toArray n }/\xs.length<=ba:=by
 obtain⟨z,its,n,r,e⟩:=I.hok p _ h
 exact⟨its,n,r,e,z⟩
theorem Inv.lstUpd {pins:List (Addr×Obj)}{σ:St}{H:Hp}{s:Shared}{p:Addr}{xs ys:List V}{its its':List Value}{n n':Nat}{f:Obj->Obj}(I:Inv X pins σ H s)(h:H p=some (.lst xs))
  (ho:s.heap.get? p=some { cls := .type "list",data := .seq its.toArray n }) (hf:f { cls := .type "list",data := .seq its.toArray n }={ cls := .type "list",data := .seq its'.toArray n' }) (r:Vals ys its') (hz:ys.length<=ba) (t:Nat) :
  Inv X pins σ (upd H p (.lst ys)) { s with heap:=s.heap.update p f,toks:=t }:=by
 have e:(s.heap.update p f).get? p=some { cls := .type "list",data := .seq its'.toArray n' }:=by
  rw[jx f ho (by rw[hf] <;> rfl),hf]
 refine I.write (x:=p) (e:=p) (by rw[h];trivial) (.inl rfl) (λb u hb q=>(ig _ _ (jh hb)).trans q) ⟨_,e⟩ ?_
 exact⟨hz,its',n',r,e⟩
def fY:V->V->V->Hp->(Hp->Prop)->Prop:=λo i v H Q=>∃p xs k j,o = .ref p/\i = .int k/\H p=some (.lst xs)/\ixN xs.length k=some j/\Q (upd H p (.lst (xs.set j v)))
theorem dU:aKG X fY:=by
 intro pins s σ H o i v ov iv u Q I ro ri rv h
 obtain⟨p,xs,k,j,rfl,rfl,hp,hj,q⟩:=h
 cases ro
 obtain⟨t,rfl⟩:=ri
 obtain⟨its,n,r,ho,hz⟩:=I.lst hp
 obtain⟨h1,h2,h3,h4⟩:=aCx hj
 have hl:=r.length
 have hn:=tL
 have I':Inv X pins σ (upd H p (.lst (xs.set j v))) { s with heap:=s.heap.update p (fv (·.setIfInBounds j u)) }:=
  I.lstUpd hp ho (aAx its n j u) (r.set rv j) (by rw[dg];exact hz) s.toks
 by_cases h0:0<=k
 ·have hk:k.toNat=j:=by
   rw[Bu h0 h4] at h1
   exact da h1
  exact PySem.W.ki_setAt ho h0 (by omega) (by rw[av,<- hl];exact h4) (by rw[hk];exact⟨_,I',q⟩)
 ·have hk:(k+(its.toArray.size:Int)).toNat=j:=by
   rw[Bg (by omega) h3] at h1
   rw[av,<- hl]
   exact da h1
  exact PySem.W.ki_setBack ho (by omega) (by rw[av,<- hl];exact h3) (by omega) (by rw[hk];exact⟨_,I',q⟩)
theorem uR (lo hi:Option Int)(n:Nat):(tm lo hi none n).1=((HT.sIx n 0 lo:Nat):Int)/\(tm lo hi none n).2.1=((HT.sIx n n hi:Nat):Int)/\(tm lo hi none n).2.2=1:=by
 refine⟨?_,?_,rfl⟩
 ·cases lo with
  |none=>simp[tm,HT.sIx]
  |some i=>
   simp only[tm,HT.sIx,Option.getD_none,show(1:Int) > 0 by decide,if_true]
   by_cases h:i<0
   ·simp only[h,if_true] <;> omega
   ·simp only[h,if_false] <;> omega
 ·cases hi with
  |none=>simp[tm,HT.sIx]
  |some i=>
   simp only[tm,HT.sIx,Option.getD_none,show(1:Int) > 0 by decide,if_true]
   by_cases h:i<0
   ·simp only[h,if_true] <;> omega
   ·simp only[h,if_false] <;> omega
theorem qG (its:List Value)(lo hi:Option Int):slicePick its.toArray lo hi none=((its.drop (HT.sIx its.length 0 lo)).take (HT.sIx its.length its.length hi - HT.sIx its.length 0 lo)).toArray:=by
 obtain⟨h1,h2,h3⟩:=uR lo hi its.toArray.size
 unfold slicePick
 rw[h1,h2,h3]
 simp only[sliceRange_one,pick_run,av] <;> rfl
def aKz (K:aa):V->Option Int->Option Int->Hp->VK->Prop:=λx lo hi H Q=>∃a xs,x = .ref a/\SqL K H a xs/\∀p,H p=none->Q (.ref p) (upd H p (.lst (rF xs lo hi)))
theorem aGp:SlR X (aKz X.K):=by
 intro pins s σ H x v vl vu lo hi sl Q I rx hs pl pu h
 obtain⟨a,xs,rfl,hx,q⟩:=h
 cases rx
 obtain⟨its,r,ht,hz⟩:=I.list hx
 have hlen:=r.length
 refine⟨"list",_,slot_list_getitem.lookup,ht.isList.typeIs,?_⟩
 refine wpAny_getItem_list_slice ht.isList hs pl pu .none (by simp) ?_ (by rw[av] <;> omega)
 rw[qG,<- hlen]
 refine⟨.ref s.heap.objs.size,_,I.laid (t':=s.toks) (o := .lst (rF xs lo hi)) (λb ob q=>ak _ q) (ay _) ?_,rfl,q _ (I.hok.fresh (ay _))⟩
 exact⟨cg (nP xs lo hi) hz,_,0,(r.drop (HT.sIx xs.length 0 lo)).take (HT.sIx xs.length xs.length hi - HT.sIx xs.length 0 lo),bg _ rfl⟩
def oP:V->Bool
 | .non=>true
 | .bl _=>true
 | .int _=>true
 | .str _=>true
 |_=>false
def eqV:V->V->Bool
 | .non, .non=>true
 | .bl a, .bl b=>a == b
 | .bl a, .int b=>(if a then 1 else 0) == b
 | .int a, .bl b=>a == (if b then 1 else 0)
 | .int a, .int b=>a == b
 | .str a, .str b=>a == b
 |_,_=>false
theorem aHM {A:Around}{s:Shared}{y x:V}{u v:Value}(ry:RelV y u)(rx:RelV x v)(fy:oP y=true)(fx:oP x=true):ff A s u v (eqV y x):=by
 cases y with
 |non=>
  cases ry
  cases x with
  |non=>cases rx;exact SeqAt.EqAt.same _
  |bl b=>cases rx;exact SeqAt.EqAt.none_bool b
  |int b=>obtain⟨t,rfl⟩:=rx;exact SeqAt.EqAt.none_int b t
  |str b=>obtain⟨t,rfl⟩:=rx;exact SeqAt.EqAt.none_str b t
  |_=>exact absurd (show false=true from fx) bh
 |bl a=>
  cases ry
  cases x with
  |non=>cases rx;exact SeqAt.EqAt.bool_none a
  |bl b=>cases rx;exact SeqAt.EqAt.bool_bool a b
  |int b=>obtain⟨t,rfl⟩:=rx;exact SeqAt.EqAt.bool_int a b t
  |str b=>obtain⟨t,rfl⟩:=rx;exact SeqAt.EqAt.bool_str a b t
  |_=>exact absurd (show false=true from fx) bh
 |int a=>
  obtain⟨t',rfl⟩:=ry
  cases x with
  |non=>cases rx;exact SeqAt.EqAt.int_none a t'
  |bl b=>cases rx;exact SeqAt.EqAt.int_bool a t' b
  |int b=>obtain⟨t,rfl⟩:=rx;exact qr a t' b t
  |str b=>obtain⟨t,rfl⟩:=rx;exact SeqAt.EqAt.int_str a t' b t
  |_=>exact absurd (show false=true from fx) bh
 |str a=>
  obtain⟨t',rfl⟩:=ry
  cases x with
  |non=>cases rx;exact SeqAt.EqAt.str_none a t'
  |bl b=>cases rx;exact SeqAt.EqAt.str_bool a t' b
  |int b=>obtain⟨t,rfl⟩:=rx;exact SeqAt.EqAt.str_int a t' b t
  |str b=>obtain⟨t,rfl⟩:=rx;exact SeqAt.EqAt.str_str a t' b t
  |_=>exact absurd (show false=true from fx) bh
 |_=>exact absurd (show false=true from fy) bh
def eqU (x:V) (u:Value):Bool:=match u with
 | .none=>eqV .non x
 | .bool b=>eqV (.bl b) x
 | .int i _=>eqV (.int i) x
 | .str z _=>eqV (.str z) x
 |_=>false
theorem aEz {x y:V}{u:Value}(r:RelV y u)(f:oP y=true):eqU x u=eqV y x:=by
 cases y with
 |non=>cases r;rfl
 |bl b=>cases r;rfl
 |int i=>obtain⟨t,rfl⟩:=r;rfl
 |str z=>obtain⟨t,rfl⟩:=r;rfl
 |_=>exact absurd (show false=true from f) bh
theorem mT {x:V}:∀{xs:List V}{us:List Value},Vals xs us->xs.all oP=true->us.any (eqU x)=xs.any λy=>eqV y x
 |_,_, .nil,_=>rfl
 |y :: xs,u :: us, .cons r t,f=>by
  rw[qt,dv] at f
  rw[u4,u4,aEz r f.1,mT t f.2]
theorem jK {A:Around}{s:Shared}{x:V}{v:Value}(rx:RelV x v)(fx:oP x=true):∀{xs:List V}{us:List Value},Vals xs us->xs.all oP=true->∀u∈us,ff A s u v (eqU x u)
 |_,_, .nil,_=>λu hu=>by cases hu
 |y :: xs,u :: us, .cons r t,f=>λu' hu=>by
  rw[qt,dv] at f
  rcases b6.mp hu with rfl | hu
  ·rw[aEz r f.1];exact aHM r rx f.1 fx
  ·exact jK rx fx t f.2 u' hu
def inV (x:V) (xs:List V):Bool:=xs.any λy=>eqV y x
def rIn (K:aa) (neg:Bool):R2:=λx y H Q=>∃p xs,y = .ref p/\(SqL K H p xs\/SqT K H p xs)/\oP x=true/\xs.all oP=true/\Q (.bl (if neg then !inV x xs else inV x xs)) H
theorem aBL:OpR X (i8 .In) (rIn X.K false):=by
 intro pins s σ H x y v u Q I rx ry h
 obtain⟨p,xs,rfl,hq,fx,fs,q⟩:=h
 cases ry
 rcases hq with hq | hq
 ·obtain⟨its,r,pl,hz⟩:=I.list hq
  refine zj (eqU x) pl.isList (λw hw=>jK rx fx r fs w (by simpa using hw)) ⟨.bl _,H,I,rfl,?_⟩
  rw[show its.toArray.any (eqU x)=its.any (eqU x) by simp,mT r fs]
  exact q
 ·obtain⟨its,r,pl,hz⟩:=I.tuple hq
  refine yo (eqU x) pl (λw hw=>jK rx fx r fs w (by simpa using hw)) ⟨.bl _,H,I,rfl,?_⟩
  rw[show its.toArray.any (eqU x)=its.any (eqU x) by simp,mT r fs]
  exact q
theorem uB:OpR X (i8 .NotIn) (rIn X.K true):=by
 intro pins s σ H x y v u Q I rx ry h
 obtain⟨p,xs,rfl,hq,fx,fs,q⟩:=h
 cases ry
 rcases hq with hq | hq
 ·obtain⟨its,r,pl,hz⟩:=I.list hq
  refine SeqAt.notIn_listAt (eqU x) pl.isList (λw hw=>jK rx fx r fs w (by simpa using hw)) ⟨.bl _,H,I,rfl,?_⟩
  rw[show its.toArray.any (eqU x)=its.any (eqU x) by simp,mT r fs]
  exact q
 ·obtain⟨its,r,pl,hz⟩:=I.tuple hq
  refine SeqAt.notIn_tupleAt (eqU x) pl (λw hw=>jK rx fx r fs w (by simpa using hw)) ⟨.bl _,H,I,rfl,?_⟩
  rw[show its.toArray.any (eqU x)=its.any (eqU x) by simp,mT r fs]
  exact q
theorem uF:CallR X (.builtin "len") (λxs H Q=>∃p ys,xs=[.ref p]/\(SqL X.K H p ys\/SqT X.K H p ys)/\Q (.int ys.length) H):=by
 intro pins s σ H xs us Q I r h
 obtain⟨p,ys,rfl,hq,q⟩:=h
 obtain⟨u,rfl,rx⟩:=nQ r
 cases rx
 have hn:=tL
 rcases hq with hq | hq
 ·obtain⟨its,r',pl,hz⟩:=I.list hq
  have hlen:=r'.length
  exact Calls.call_len_list pl.isList (by simp only[av] <;> omega) ⟨.int ys.length,H,I.tok _,⟨s.toks+1,by rw[av,hlen]⟩,q⟩
 ·obtain⟨its,r',pl,hz⟩:=I.tuple hq
  have hlen:=r'.length
  exact len_tuple pl (by simp only[av] <;> omega) ⟨.int ys.length,H,I.tok _,⟨s.toks+1,by rw[av,hlen]⟩,q⟩
theorem CallR.or {f:Value}{r r':List V->Hp->VK->Prop}(h:CallR X f r)(h':CallR X f r'):CallR X f (λxs H Q=>r xs H Q\/r' xs H Q):=by
 intro pins s σ H xs us Q I rs q
 rcases q with q | q
 ·exact h pins s σ H xs us Q I rs q
 ·exact h' pins s σ H xs us Q I rs q
theorem uL:CallR X (.type "list") (λxs H Q=>∃p ys,xs=[.ref p]/\(SqL X.K H p ys\/SqT X.K H p ys)/\∀l,H l=none->Q (.ref l) (upd H l (.lst ys))):=by
 intro pins s σ H xs us Q I r h
 obtain⟨p,ys,rfl,hq,q⟩:=h
 obtain⟨u,rfl,rx⟩:=nQ r
 cases rx
 have fin:∀(its:List Value),Vals ys its->ys.length<=ba->∀(h':Heap) (c':Nat),(∀b o',s.heap.get? b=some o'->h'.get? b=some o') ->
   h'.get? s.heap.objs.size=some { cls := .type "list",dict:=none,data := .seq its.toArray c',slots:=#[] }->EP X pins σ Q (.ref s.heap.objs.size) { s with heap:=h' }:=λits r' hz h' c' kp e=>
  ⟨.ref s.heap.objs.size,_,I.laid (t':=s.toks) kp (ay _) (show ObjOk X.prog X.w _ h' _ (.lst ys) from⟨hz,its,c',r',e⟩),rfl,q _ (I.hok.fresh (ay _))⟩
 rcases hq with hq | hq
 ·obtain⟨its,r',pl,hz⟩:=I.list hq
  have hlen:=r'.length
  obtain⟨o,ho,hc,n,hd⟩:=pl.isList
  exact call_list_seq p (.inl rfl) ho hc hd (λh' c' kp e=>fin its r' hz h' c' kp e) (by simp only[av] <;> omega)
 ·obtain⟨its,r',pl,hz⟩:=I.tuple hq
  have hlen:=r'.length
  obtain⟨o,ho,hc,n,hd⟩:=pl
  exact call_list_seq p (.inr rfl) ho hc hd (λh' c' kp e=>fin its r' hz h' c' kp e) (by simp only[av] <;> omega)
theorem qI:CallR X (.type "tuple") (λxs H Q=>∃p ys,xs=[.ref p]/\((SqL X.K H p ys/\∀l,H l=none->Q (.ref l) (upd H l (.tup ys)))\/(SqT X.K H p ys/\Q (.ref p) H))):=by
 intro pins s σ H xs us Q I r h
 obtain⟨p,ys,rfl,h⟩:=h
 obtain⟨u,rfl,rx⟩:=nQ r
 cases rx
 rcases h with⟨hq,q⟩ | ⟨hq,q⟩
 ·obtain⟨its,r',pl,hz⟩:=I.list hq
  have hlen:=r'.length
  refine call_tuple_list pl.isList (λh' kp=>?_) (by simp only[av] <;> omega)
  have I1:Inv X pins σ H { s with heap:=h' }:=I.kept (t':=s.toks) kp
  have I2:Inv X pins σ (upd H h'.objs.size (.tup ys)) { s with heap:=h'.push { cls := .type "tuple",data := .seq its.toArray } }:=
   I1.laid (t':=s.toks) (λb o e=>ak _ e) (ay _) (show ObjOk X.prog X.w _ _ _ (.tup ys) from⟨hz,its,r',TupN.new _ _⟩)
  exact⟨.ref h'.objs.size,_,I2,rfl,q _ (I1.hok.fresh (ay _))⟩
 ·obtain⟨its,r',pl,hz⟩:=I.tuple hq
  exact call_tuple_same pl ⟨.ref p,H,I,rfl,q⟩
def tyV (K:aa) (T:String) (x:V) (H:Hp):Prop:=match x with
 | .str _=>T="str"
 | .int _=>T="int"
 | .ref p=>(T="list"/\∃xs,SqL K H p xs)\/(T="tuple"/\∃o,K.lookup p=some o/\o.cls = .type "tuple"/\o.dict=none) \/
   (T="dict"/\((∃kvs,H p=some (.dK kvs))\/∃kvs,H p=some (.dT kvs)))\/(T="set"/\∃S n,H p=some (.set S n))
 |_=>False
theorem aED {pins:List (Addr×Obj)}{σ:St}{H:Hp}{s:Shared}{T:String}{x:V}{v:Value}(I:Inv X pins σ H s)(r:RelV x v)(ty:tyV X.K T x H) :
  s.TypeIs v T/\∀a,v = .ref a->∃ob,s.heap.get? a=some ob/\ob.dict=none:=by
 cases x with
 |str z=>
  obtain⟨t,rfl⟩:=r
  cases (show T="str" from ty)
  exact⟨typeIs_str s z t,λ_ e=>nomatch e⟩
 |int i=>
  obtain⟨t,rfl⟩:=r
  cases (show T="int" from ty)
  exact⟨typeIs_int s i t,λ_ e=>nomatch e⟩
 |ref p=>
  cases r
  rcases ty with⟨rfl,xs,hq⟩ | ⟨rfl,o,hk,hc,hd⟩ | ⟨rfl,hk⟩ | ⟨rfl,S,n,hk⟩
  ·obtain⟨its,_,pl,_⟩:=I.list hq
   refine⟨pl.isList.typeIs,λa e=>?_⟩
   cases e
   obtain⟨o,n,e,c,hd,_⟩:=pl
   exact⟨o,e,hd⟩
  ·refine⟨⟨o,I.kIn p o hk,hc⟩,λa e=>?_⟩
   cases e
   exact⟨o,I.kIn _ o hk,hd⟩
  ·have z:∃o,s.heap.get? p=some o/\o.ExactDict:=by
    rcases hk with⟨kvs,hk⟩ | ⟨kvs,hk⟩
    ·obtain⟨_,_,_,_,o,_,_,e,ex,_⟩:=I.hok p _ hk
     exact⟨o,e,ex⟩
    ·obtain⟨_,_,_,_,o,_,_,e,ex,_⟩:=I.hok p _ hk
     exact⟨o,e,ex⟩
   obtain⟨o,e,ex⟩:=z
   refine⟨⟨o,e,ex.1⟩,λa e2=>?_⟩
   cases e2
   exact⟨o,e,ex.2.1⟩
  ·obtain⟨o,_,_,_,e,ex,_⟩:=I.hok p _ hk
   refine⟨⟨o,e,ex.1⟩,λa e2=>?_⟩
   cases e2
   exact⟨o,e,ex.2.1⟩
 |_=>exact kx ty
def aKr (K:aa) (T:String) (r:V->List V->Hp->VK->Prop) (to:TE):TE:=λσ H Q=>to σ H λx H1=>tyV K T x H1/\r x [] H1 Q
def tBM (K:aa) (T:String) (r:V->List V->Hp->VK->Prop) (to:TE) (t:TA):TE:=λσ H Q=>to σ H λx H1=>tyV K T x H1/\t σ H1 λxs H2=>r x xs H2 Q
variable {o e:Expr}{es:List Expr}{to:TE}{t:TA}{name:Str}{apos cpos:Pos}{T id:String}{r:V->List V->Hp->VK->Prop}
theorem aIO (pa:PlainAttrs T)(slot:Slot T name id)(hty:typeOf (.builtin id)=pure (.type "method_descriptor"))(hm:MtR X id r)(ho:PE X o to)
  (hbase:qu o name X.env (eval o X.env)=eval o X.env:=by rfl) (hline:(apos.endLine == cpos.line)=true:=by rfl):PE X (.Call (.Attribute o name apos) [] [] cpos) (aKr X.K T r to):=by
 intro pins s σ H Q I h
 refine qv hbase hline (thn (ho pins s σ H _ I h) λv s1 ⟨x,H1,I1,r1,ty,q1⟩=>?_)
 obtain⟨h1,h2⟩:=aED I1 r1 ty
 exact⟨T,id,pa,slot,hty,h1,h2,n5 rfl (vh (hm pins s1 σ H1 x [] v [] Q I1 r1 .nil q1))⟩
theorem aJO (pa:PlainAttrs T)(slot:Slot T name id)(hty:typeOf (.builtin id)=pure (.type "method_descriptor"))(hm:MtR X id r)(ho:PE X o to)(ha:PA X (e :: es) t)
  (hbase:qu o name X.env (eval o X.env)=eval o X.env:=by rfl)
  (hfew:((zc cpos (fi (e :: es) X.env)).all (λx=>!x.1) && (backToKw cpos (keywordEach [] X.env)).all (λx=>x.1.isSome)
   && decide ((e :: es).length+([]:List Keyword).length+(if([]:List Keyword).isEmpty then 0 else 1)<30))=true:=by rfl)
  (hline:(apos.endLine == cpos.line)=true:=by rfl) (hs:fi (e :: es) X.env=(false,eval e X.env) :: fi es X.env:=by rfl) (hplain:(zc cpos (fi es X.env)).any (·.1)=false:=by rfl) :
  PE X (.Call (.Attribute o name apos) (e :: es) [] cpos) (tBM X.K T r to t):=by
 intro pins s σ H Q I h
 refine wpAny_Call_method_late hbase hfew hline rfl (thn (ho pins s σ H _ I h) λv s1 ⟨x,H1,I1,r1,ty,q1⟩=>?_)
 obtain⟨h1,h2⟩:=aED I1 r1 ty
 refine⟨T,id,pa,slot,hty,h1,h2,?_⟩
 have hA:=ha cpos pins s1 σ H1 _ I1 q1
 rw[hs] at hA ⊢
 refine n5 (by show(false || (zc cpos (fi es X.env)).any (·.1))=false;rw[hplain] <;> rfl) (Ai ?_)
 exact thn hA λus s2 ⟨vs,H2,I2,r2,q2⟩=>hm pins s2 σ H2 x vs v us Q I2 r1 r2 q2
end
def MtM (X:Cx) (id:String) (r:V->List V->Hp->VK->Prop):Prop:=
 ∀(pins:List (Addr×Obj)) (s:Shared) (σ:St) (H:Hp) (x:V) (xs:List V) (v:Value) (us:List Value) (Q:VK),Inv X pins σ H s->RelV x v->Vals xs us->r x xs H Q ->
  wpAny (model X.prog X.w) X.A (call (.builtin id) (v :: us)) (EP X pins σ Q) X.xe s
theorem Vals.one:∀{x:V}{us:List Value},Vals [x] us->∃u,us=[u]/\RelV x u
 |_,_, .cons r .nil=>⟨_,rfl,r⟩
theorem Vals.two:∀{x y:V}{us:List Value},Vals [x,y] us->∃u v,us=[u,v]/\RelV x u/\RelV y v
 |_,_,_, .cons r (.cons q .nil)=>⟨_,_,rfl,r,q⟩
theorem Vals.zero:∀{us:List Value},Vals [] us->us=[]
 |_, .nil=>rfl
theorem Vals.dropLast {xs:List V}{us:List Value}(h:Vals xs us):Vals xs.dropLast us.dropLast:=by
 induction h with
 |nil=>exact .nil
 |cons r t ih=>
  cases t with
  |nil=>exact .nil
  |cons q t'=>exact .cons r ih
theorem Vals.eraseIdx:∀{xs:List V}{us:List Value} (i:Nat),Vals xs us->Vals (xs.eraseIdx i) (us.eraseIdx i)
 |_,_,_, .nil => .nil
 |_,_,0, .cons _ t=>t
 |_,_,i+1, .cons r t => .cons r (Vals.eraseIdx i t)
theorem Vals.rep {xs:List V}{us:List Value}(h:Vals xs us):∀k:Nat,Vals (bp k xs).flatten (bp k us).flatten
 |0 => .nil
 |k+1=>by
  rw[gj,gj,mh,mh]
  exact Vals.append h (Vals.rep h k)
theorem zW {α:Type}(l:List α):l.eraseIdx (l.length - 1)=l.dropLast:=by
 induction l with
 |nil=>rfl
 |cons a r ih=>
  cases r with
  |nil=>rfl
  |cons b r=>
   have e:(a :: b :: r).length - 1=((b :: r).length - 1)+1:=by
    have h1:(a :: b :: r).length=r.length+2:=rfl
    have h2:(b :: r).length=r.length+1:=rfl
    omega
   rw[e,List.eraseIdx_cons_succ,ih]
   all_goals rfl
theorem sZ {α:Type}:∀(l:List α) (i:Nat),(l.eraseIdx i).length<=l.length
 |[],_=>ay _
 |_ :: _,0=>om _
 |_ :: r,i+1=>Nat.succ_le_succ (sZ r i)
theorem tP (its:List Value):∀(k:Nat) (acc:List Value),
  List.foldl (λx1 x2=>x1++x2) acc.toArray (bp k its.toArray)=(acc++(bp k its).flatten).toArray
 |0,acc=>by simp
 |k+1,acc=>by
  have e:acc.toArray++its.toArray=(acc++its).toArray:=by simp
  have e2:(acc++its)++(bp k its).flatten=acc++(bp (k+1) its).flatten:=by
   rw[gj,mh,iy]
  rw[<- e2,<- tP its k (acc++its),<- e,gj,zk]
section
variable {X:Cx}{pins:List (Addr×Obj)}{σ:St}{H:Hp}{s:Shared}{l b:Addr}{xs ys zs:List V}
theorem Inv.lset {its its':List Value}{n:Nat}{f:Array Value->Array Value}{t':Nat}(I:Inv X pins σ H s)(hH:H l=some (.lst xs))
  (e:s.heap.get? l=some { cls := .type "list",data := .seq its.toArray n }) (hf:f its.toArray=its'.toArray) (hv:Vals ys its') (hz:ys.length<=ba) :
  Inv X pins σ (upd H l (.lst ys)) { s with heap:=s.heap.update l (fv f),toks:=t' }:=by
 have q:=PySem.IsL.update e f
 rw[hf] at q
 refine I.write (x:=l) (e:=l) (by rw[hH];exact trivial) (.inl rfl) (λb' u hb hu=>(ig s.heap (fv f) (jh hb)).trans hu) ⟨_,q⟩ ?_
 exact⟨hz,its',_,hv,q⟩
theorem Inv.lnew {its:List Value}{t':Nat}(I:Inv X pins σ H s)(hv:Vals ys its)(hz:ys.length<=ba) :
  Inv X pins σ (upd H s.heap.objs.size (.lst ys)) { s with heap:=s.heap.push { cls := .type "list",data := .seq its.toArray },toks:=t' }:=
 I.laid (λ_ _ q=>ak _ q) (ay _) ⟨hz,its,0,hv,bg _ rfl⟩
theorem Inv.fresh (I:Inv X pins σ H s):H s.heap.objs.size=none:=I.hok.fresh (ay _)
theorem Inv.lstM (I:Inv X pins σ H s)(hH:H l=some (.lst xs)):xs.length<=ba/\∃(its:List Value) (n:Nat),Vals xs its/\xs.length=its.length/\s.heap.get? l=some { cls := .type "list",data := .seq its.toArray n }:=by
 obtain⟨z,its,n,r,e⟩:=I.hok l _ hH
 exact⟨z,its,n,r,r.length,e⟩
theorem rL {n:Nat}(h:n<=ba):jf n=false:=by
 unfold jf
 exact decide_eq_false (by omega)
end
section
variable {X:Cx}
def kG:V->List V->Hp->VK->Prop:=λx vs H Q=>∃l xs y,x = .ref l/\vs=[y]/\H l=some (.lst xs)/\xs.length<ba/\Q .non (upd H l (.lst (xs++[y])))
theorem gH:MtM X "list.append" kG:=by
 intro pins s σ H x vs v us Q I rx rv h
 obtain⟨l,xs,y,rfl,rfl,hH,hz,q⟩:=h
 cases rx
 obtain⟨u,rfl,ru⟩:=rv.one
 obtain⟨z,its,n,r,hl,e⟩:=I.lstM hH
 refine vc F.slot_list_append ⟨_,e,rfl⟩ F.entry_list_append (F.args_list_append_2 _ _) (PySem.list_append l its.toArray n u (by rw[av];omega)) ⟨e,?_⟩
 refine⟨.non,_,I.lset (its':=its++[u]) hH e (by simp) (r.append (.cons ru .nil)) ?_,rfl,q⟩
 rw[ao,oo]
 omega
def aCW:V->List V->Hp->VK->Prop:=λx vs H Q=>∃l b xs zs,x = .ref l/\vs=[.ref b]/\H l=some (.lst xs)/\H b=some (.lst zs)/\xs.length+zs.length<=ba/\Q .non (upd H l (.lst (xs++zs)))
theorem aBw:MtM X "list.extend" aCW:=by
 intro pins s σ H x vs v us Q I rx rv h
 obtain⟨l,b,xs,zs,rfl,rfl,hH,hB,hz,q⟩:=h
 cases rx
 obtain⟨u,rfl,ru⟩:=rv.one
 cases ru
 obtain⟨z,its,n,r,hl,e⟩:=I.lstM hH
 obtain⟨z2,its2,n2,r2,hl2,e2⟩:=I.lstM hB
 have hsz:its.toArray.size+its2.toArray.size<=ba:=by rw[av,av];omega
 have hlong:¬ (!its.toArray.isEmpty && jf (its.toArray.size+its2.toArray.size))=true:=by
  rw[rL hsz,Bool.and_false]
  exact bh
 refine vc F.slot_list_extend ⟨_,e,rfl⟩ AG (Aj _ _)
  (AutoSeq1.list_extend_list_list_0 l its.toArray n b its2.toArray n2 hlong (by rw[av];omega) (by omega)) ⟨e,e2,?_⟩
 refine⟨.non,_,I.lset (its':=its++its2) hH e (by simp) (r.append r2) ?_,rfl,q⟩
 rw[ao]
 omega
def aKZ:V->List V->Hp->VK->Prop:=λx vs H Q=>∃l xs y,x = .ref l/\vs=[]/\H l=some (.lst xs)/\xs[xs.length - 1]?=some y/\Q y (upd H l (.lst xs.dropLast))
theorem aIW:MtM X "list.pop" aKZ:=by
 intro pins s σ H x vs v us Q I rx rv h
 obtain⟨l,xs,y,rfl,rfl,hH,hy,q⟩:=h
 cases rx
 have hus:=rv.zero
 subst hus
 obtain⟨z,its,n,r,hl,e⟩:=I.lstM hH
 obtain⟨u,hu,ru⟩:=r.get hy
 have hy':its.toArray[its.toArray.size - 1]?=some u:=by
  show its.toArray[its.length - 1]?=some u
  rw[<- oq,<- hl]
  exact hu
 refine vc F.slot_list_pop ⟨_,e,rfl⟩ F.entry_list_pop (F.args_list_pop_1 _) (MeetsSeq.list_pop_last l its.toArray n u hy' (by rw[av];omega)) ⟨e,?_⟩
 refine⟨y,_,I.lset (its':=its.dropLast) hH e ?_ r.dropLast ?_,ru,q⟩
 ·show its.toArray.eraseIdxIfInBounds (its.toArray.size - 1)=its.dropLast.toArray
  rw[av,tq,zW]
 ·rw[List.length_dropLast]
  omega
def aEs:V->List V->Hp->VK->Prop:=λx vs H Q=>∃l xs i k y,x = .ref l/\vs=[.int i]/\H l=some (.lst xs)/\-(2 ^ 63)<=i/\i<2 ^ 63/\AW i xs.length=some k/\xs[k]?=some y/\Q y (upd H l (.lst (xs.eraseIdx k)))
theorem aDn:MtM X "list.pop" aEs:=by
 intro pins s σ H x vs v us Q I rx rv h
 obtain⟨l,xs,i,k,y,rfl,rfl,hH,h1,h2,hk,hy,q⟩:=h
 cases rx
 obtain⟨u,rfl,ru⟩:=rv.one
 obtain⟨t,rfl⟩:=ru
 obtain⟨z,its,n,r,hl,e⟩:=I.lstM hH
 obtain⟨w,hw,rw'⟩:=r.get hy
 refine vc F.slot_list_pop ⟨_,e,rfl⟩ F.entry_list_pop (F.args_list_pop_2 _ _)
  (MeetsSeq.list_pop_at l its.toArray n i t k w (fitsIndex_both h1 h2) (by rw[av,<- hl];exact hk) (by rw[<- oq];exact hw) (by rw[av];omega)) ⟨e,?_⟩
 refine⟨y,_,I.lset (its':=its.eraseIdx k) hH e ?_ (r.eraseIdx k) ?_,rw',q⟩
 ·show its.toArray.eraseIdxIfInBounds k=(its.eraseIdx k).toArray
  rw[tq]
 ·have:=sZ xs k
  omega
def aKC:R2:=λx y H Q=>∃l b xs zs,x = .ref l/\y = .ref b/\H l=some (.lst xs)/\H b=some (.lst zs)/\xs.length+zs.length<=ba/\∀p,H p=none->Q (.ref p) (upd H p (.lst (xs++zs)))
theorem aIq:OpR X (km .Add) aKC:=by
 intro pins s σ H x y v u Q I rx ry h
 obtain⟨l,b,xs,zs,rfl,rfl,hH,hB,hz,q⟩:=h
 cases rx
 cases ry
 obtain⟨z,its,n,r,hl,e⟩:=I.lstM hH
 obtain⟨z2,its2,n2,r2,hl2,e2⟩:=I.lstM hB
 refine PySem.P.add_list e e2 ?_ (by rw[av,av];omega)
 have ea:its.toArray++its2.toArray=(its++its2).toArray:=by simp
 rw[ea]
 exact⟨.ref _,_,I.lnew (t':=s.toks) (r.append r2) (by rw[ao];omega),rfl,q _ I.fresh⟩
def aJK:R2:=λx y H Q=>∃l k xs,x = .ref l/\y = .int k/\H l=some (.lst xs)/\-(2 ^ 63)<=k/\k<2 ^ 63/\xs.length*k.toNat<=ba /\
 ∀p,H p=none->Q (.ref p) (upd H p (.lst (bp k.toNat xs).flatten))
theorem aGO {α:Type}(xs:List α)(k:Nat):(bp k xs).flatten.length=k*xs.length:=by
 induction k with
 |zero=>simp
 |succ k ih=>rw[gj,mh,ao,ih,Nat.succ_mul,Nat.add_comm]
theorem aEK:OpR X (km .Mult) aJK:=by
 intro pins s σ H x y v u Q I rx ry h
 obtain⟨l,k,xs,rfl,rfl,hH,h1,h2,hz,q⟩:=h
 cases rx
 obtain⟨t,rfl⟩:=ry
 obtain⟨z,its,n,r,hl,e⟩:=I.lstM hH
 have hlen:its.toArray.size*k.toNat<=ba:=by rw[av,<- hl];exact hz
 have hcap:¬ its.toArray.size*k.toNat > (2 ^ 63 - 1) / 8:=by
  have:(ba:Nat)<=(2 ^ 63 - 1) / 8:=by decide
  omega
 have hfit:¬ (!Builtin.List.listFitsIndex k)=true:=by
  rw[fitsIndex_both h1 h2]
  exact bh
 have hlong:¬ jf (its.toArray.size*k.toNat)=true:=by
  rw[rL hlen]
  exact bh
 have hnew:List.foldl (λx1 x2=>x1++x2) #[] (bp (if its.toArray.isEmpty=true then 0 else k.toNat) its.toArray)=(bp k.toNat its).flatten.toArray:=by
  have f0:∀m:Nat,List.foldl (λx1 x2=>x1++x2) #[] (bp m its.toArray)=(bp m its).flatten.toArray:=λm=>by
   have:=tP its m []
   rw[gm] at this
   exact this
  rw[f0]
  cases its with
  |nil=>simp
  |cons a r'=>rw[if_neg (by simp)]
 refine wpAny_binaryOp_repeat_ref (T:="list") (U:="int") (by decide) ⟨_,e,rfl⟩ (λs'=>typeIs_int s' k t) noFill_list_mul F.fills_int_mul F.slot_int_rmul repeat_list F.slot_int_index.lookup
  (vc F.slot_int_rmul (typeIs_int s k t) F.entry_int_rmul (F.args_int_rmul_2 _ _) (int___rmul___int_list k t l its.toArray n)
   ⟨e,rfl,⟨_,e,rfl⟩,vc F.slot_list_mul ⟨_,e,rfl⟩ F.entry_list_mul (F.args_list_mul_2 _ _) (AutoListH.list___mul___list_int_3 l its.toArray n k t hfit hcap hlong) ⟨e,?_⟩⟩)
 rw[hnew]
 exact⟨.ref _,_,I.lnew (t':=s.toks) (r.rep k.toNat) (by rw[aGO,Nat.mul_comm];exact hz),rfl,q _ I.fresh⟩
end
section
variable {prog:Program}{w:World}{A:Around}{E:Value->Shared->Prop}{s:Shared}
end
section
variable {X:Cx}
end
end L2
namespace Att
open PySem PySem.W PySem.Calls PyProof.Rows
theorem mU {P:Params}{h:Heap}:∀(ns:List Int) (vs:List Value),WellAll P h vs (ns.map WData.int)->IntsAre vs ns:=by
 intro ns
 induction ns with
 |nil=>
  intro vs w
  rw[qi] at w
  cases w
  exact .nil
 |cons n ns ih=>
  intro vs w
  rw[b8] at w
  cases w with
  |cons a b=>
   cases a
   exact .cons _ _ (ih _ b)
theorem aCK {l:OpenLaw}{n:Nat}(hn:l.most=some n){P:Params}{h:Heap}{args:List WData}{vals:List Value}
  (hpre:l.row.toRowW.claim.pre args=true) (hwl:WellAll P h vals args) :
  ∃a vs ns,vals=[Value.ref a]/\args=[WData.list (ns.map WData.int)]/\h.get? a=some { cls := .type "list",data := .seq vs.toArray }/\IntsAre vs ns/\ns.length<=n:=by
 have hsh:WShape.hasAll [] args [.list .int]=true:=(pre_splitW hpre).1
 have hc:l.pre.holds [] { args:=args }=true:=(pre_splitW hpre).2
 obtain⟨d,r,rfl,h1,h2⟩:=hasAllW_cons hsh
 obtain rfl:=hasAllW_nil h2
 obtain⟨xs,rfl,h3⟩:=hasW_list h1
 obtain⟨ns,rfl⟩:=items_int h3
 have hlen:ns.length<=n:=by
  unfold OpenLaw.pre at hc
  have h4:(WTm.not (.lt (.lit (.int (n:Int))) (.len (.arg 0)))).holds [] { args:=[.list (ns.map .int)] }=true:=by
   have h4:=(holds_andW hc).1
   rw[hn] at h4
   exact h4
  have h5:=condW_of h4 (w_not (w_lt w_lit (w_len_list (w_arg rfl))))
  rw[ai] at h5
  refine Nat.le_of_not_lt λq=>?_
  have q':(n:Int)<((ns.length:Nat):Int):=by omega
  first
   | (rw[decide_eq_true q'] at h5;exact absurd h5 (by decide))
   | (simp at h5;omega)
 cases hwl with
 |cons w1 w2=>
  cases w2
  cases w1 with
  |list ho hall=>exact⟨_,_,ns,rfl,rfl,ho,mU ns _ hall,hlen⟩
theorem aAP (l:OpenLaw)(args:List WData):l.row.toRowW.claim.post args (.bool true) args=true:=
 postW_of (r:=l.row.toRowW) (X:=(true == true))
  (show WShape.has [] (.bool true) .bool=true by first | rfl | decide | simp[WShape.has,WShape.arms,WShape.armsAll])
  (show(WTm.eq .res (.lit (.bool true))).value [] { args:=args,res:=some (.bool true),after:=args }=some (.bool (true == true)) from w_eq_bool (w_res rfl) w_lit) rfl
theorem attach_call {l:OpenLaw}{n:Nat}{q:Program}{loose:List Str}{XP:(Str->Option Value)->Heap->Prop}{YP:World->Heap->Prop}{d:DefRec}
  (hn:l.most=some n) (hdf:d.params.defaults=[])
  (call:∀(w:World) (s₀ s₁:Shared) (mg mb:Str->Option Value) (fa:Addr) (o:Obj) (pm cd doc:Value) (a:Addr) (vs:List Value) (ns:List Int),
   Ground q loose [] XP w s₀ mg mb s₁.heap->YP w s₁.heap ->
   s₁.heap.get? fa=some o->o.data = .func (docDef d.name d.params d.body d.scope pm cd doc)->s₁.heap.CodeRec cd d.name->mg d.name=some (.ref fa) ->
   s₁.heap.get? a=some { cls := .type "list",data := .seq vs.toArray }->IntsAre vs ns->ns.length<=n->s₁.gens=#[] ->
   vg (model l.prog w) A6 (.call (.ref fa) ⟨[.ref a],[]⟩) (λr s'=>r = .ok (.ret (.bool true))/\OldK s₁.heap s'.heap/\s'.os=s₁.os/\w9 s'.gens) s₁) :
  WalkO q loose XP YP l.row.toRowW d [] (λf vs=>PySem.call f vs):=by
 intro w s₀ s₁ mg mb G Y fa o pm cd doc dV kV ho hd hcd hD hmg hg args vals as hpre hlay hrd hwl hlo
 obtain rfl:dV = .none:=Dflts.none hD hdf
 obtain rfl:kV = .none:=Dflts.noKw hD
 obtain⟨a,vs,ns,rfl,rfl,hobj,hints,hlen⟩:=aCK hn hpre hwl
 refine enter_call (qg (call w s₀ s₁ mg mb fa o pm cd doc a vs ns G Y ho (fd_plain hd) hcd hmg hobj hints hlen hg) λr s' hq=>?_)
 obtain⟨rfl,h2,h3,h4⟩:=hq
 exact⟨.inl ⟨.bool true, .bool true,[],rfl,λ_=>rfl, .bool true,aAP l _,λ_=>⟨List.Pairwise.nil,λ_ hm=>(nomatch hm)⟩⟩,h2,h3,h4⟩
section
variable {prog:Program}{w:World}{A:Around}{E:Value->Shared->Prop}{s:Shared}{K:Frag}
end
end Att
namespace L2
open PySem PySem.Spec PyProof.Rows
theorem uP:∀{vs:List Value}{ns:List Int},IntsAre vs ns->Vals (ns.map V.int) vs
 |_,_, .nil => .nil
 |_,_, .cons n t h => .cons ⟨t,rfl⟩ (uP h)
def aJV (H:Hp):Prop:=∀b,H b=none\/∃o xs,H b=some (.frz o (.lst xs))
theorem aDQ {P:Program}{w:World}{K:aa}{mg mb:Str->Option Value}{CX:CXT}{k:Nat}{fa a:Addr}{fd:FuncData}{x:Str}{sp:Sp}{s₁:Shared}{vs:List Value}{ns:List Int}
  (KX:K.In s₁.heap) (hns:s₁.heap.Ns cp mg) (hb:s₁.heap.Ns A4 mb) (hbb:∀x:Str,x≠"__name__"->mb x=ei x) (hlim:s₁.heap.NoLimit) (hg:s₁.gens=#[])
  (ha:s₁.heap.get? a=some { cls := .type "list",data := .seq vs.toArray }) (hi:IntsAre vs ns) (hl:ns.length<=ba) (hr:Room k A6)
  (F:∀base:Heap,K.In base->base.Ns cp mg->FnOk P w K mg base CX k fa fd [x] sp) (hbind:∀(s:Shared) (u:Value),A5 s fd ⟨[u],[]⟩ [(x,u)])
  (hsp:∀H:Hp,aJV H->SqL K H a (ns.map V.int)->sp [.ref a] H (λv _=>v = .bl true) λ_ _ _=>False)
  (hCX:∀H e s',CX [] H s₁ (λ_ _ _=>False) e s'->False) :
  vg (model P w) A6 (.call (.ref fa) ⟨[.ref a],[]⟩) (λr s'=>r = .ok (.ret (.bool true))/\OldK s₁.heap s'.heap/\s'.os=s₁.os/\w9 s'.gens) s₁:=by
 have rv:=uP hi
 have lenV:=hi.length
 have core:∀H:Hp,aJV H->SqL K H a (ns.map V.int)->HOk P w H s₁.heap->(∀b,H b≠none->b=a)->(H a≠none->K.lookup a=none) ->
   vg (model P w) A6 (.call (.ref fa) ⟨[.ref a],[]⟩) (λr s'=>r = .ok (.ret (.bool true))/\OldK s₁.heap s'.heap/\s'.os=s₁.os/\w9 s'.gens) s₁:=by
  intro H hO hS hok hA hK
  have base_of:∀{b:Addr}{o:Obj},s₁.heap.get? b=some o->H b=none->(aDv s₁.heap H).get? b=some o:=λe n=>aEb e n
  have noA:∀{b:Addr}{o:Obj}{es:Array DictEntry}{ep:Nat},s₁.heap.get? b=some o->o.data = .dict es ep->H b=none:=λ{b o es ep} e d=>by
   cases q:H b with
   |none=>rfl
   |some u=>
    have e':b=a:=hA b (by rw[q];simp)
    subst e'
    rw[ha] at e;cases e
    have d':Data.seq vs.toArray _=Data.dict es ep:=d
    cases d'
  have nsK:∀{b:Addr}{m:Str->Option Value},s₁.heap.Ns b m->(aDv s₁.heap H).Ns b m:=λ{b m} ⟨o,es,ep,e,d,r⟩=>⟨o,es,ep,base_of e (noA e d),d,r⟩
  have hKb:K.In (aDv s₁.heap H):=λb o e=>base_of (KX b o e) (by
   cases q:H b with
   |none=>rfl
   |some u=>
    have e':b=a:=hA b (by rw[q];simp)
    subst e'
    rw[hK (by rw[q];simp)] at e;cases e)
  have hM:Mod K mg (aDv s₁.heap H):=⟨hKb,nsK hns,⟨mb,nsK hb,hbb⟩,let⟨mc,h1,h2⟩:=hlim;⟨mc,nsK h1,h2⟩⟩
  have e0:aJi P w K mg (aDv s₁.heap H) A6 [] s₁ H:=⟨rfl,hM,λb o e=>aGh e,Nat.le_of_eq (aBj _ _),trivial,λb hb=>absurd (show b∈([]:List Addr) from hb) (by simp),hok, .of_eq hg⟩
  refine qg ((F _ hKb (nsK hns)).run A6 [] s₁ H ⟨[.ref a],[]⟩ [.ref a] [.ref a] _ _ hr e0 (hbind s₁ (.ref a)) (.cons rfl .nil) (hsp H hO hS)) λr s' h=>?_
  cases r with
  |error e=>exact(hCX H e s' h).elim
  |ok fl=>
   cases fl with
   |next=>exact kx h
   |brk=>exact kx h
   |cont=>exact kx h
   |ret u=>
    obtain⟨v,H',os,bare,un,hok',r',q⟩:=h
    have q':v = .bl true:=q
    subst q'
    obtain rfl:u=Value.bool true:=r'
    refine⟨rfl,OldK.of_keep λb o e=>?_,os,bare⟩
    cases q:H b with
    |none=>exact un.keep b o e q (by intro z;exact absurd (show b∈([]:List Addr) from z) (by simp)) (by simp)
    |some u=>
     rcases hO b with z | ⟨ob,xs,z⟩
     ·rw[q] at z;cases z
     ·have z2:=un.frzs b ob _ z
      obtain⟨e1,_⟩:=hok b _ z
      obtain⟨e2,_⟩:=hok' b _ z2
      rw[e] at e1;cases e1
      exact e2
 cases hk:K.lookup a with
 |some o=>
  have e:=KX a o hk
  rw[ha] at e
  cases e
  refine core (λ_=>none) (λ_ => .inl rfl) (.inr ⟨_,vs.toArray,_,hk,rfl,rfl,rfl,by rw[av,lenV];exact hl,by simpa using rv⟩) (λb u z=>by have z':(none:Option HO)=some u:=z;cases z') (λb z=>absurd rfl z) λz=>absurd rfl z
 |none=>
  refine core (λb=>if b=a then some (.frz { cls := .type "list",data := .seq vs.toArray } (.lst (ns.map V.int))) else none) (λb=>?_) (.inl (.inr ⟨{ cls := .type "list",data := .seq vs.toArray },if_pos rfl⟩)) (λb u z=>?_) (λb z=>?_) λ_=>hk
  ·by_cases hb:b=a
   ·exact .inr ⟨_,_,if_pos hb⟩
   ·exact .inl (if_neg hb)
  ·by_cases hb:b=a
   ·have z':=(if_pos hb).symm.trans z
    cases z'
    subst hb
    exact⟨ha,by rw[ai];exact hl,vs,_,rv,ha⟩
   ·have z':=(if_neg hb).symm.trans z
    cases z'
  ·by_cases hb:b=a
   ·exact hb
   ·exact absurd (if_neg hb) z
theorem aGw {l:PySem.W.OpenLaw}{n k:Nat}{q:Program}{loose:List Str}{XP:(Str->Option Value)->Heap->Prop}{YP:World->Heap->Prop}{d:DefRec}{K:Params->aa}{CX:World->CXT}{sp:World->Sp}{x:Str}
  (hn:l.most=some n) (hn2:n<=ba) (hdf:d.params.defaults=[]) (hr:Room k A6)
  (hY:∀(w:World) (h:Heap),YP w h->(K w.params).In h)
  (F:∀(w:World) (mg:Str->Option Value) (fa:Addr) (h:Heap),(K w.params).In h->h.Ns cp mg->mg d.name=some (.ref fa) ->
   ∃fd:FuncData,(∀(s:Shared) (u:Value),A5 s fd ⟨[u],[]⟩ [(x,u)]) /\
    ∀base:Heap,(K w.params).In base->base.Ns cp mg->FnOk l.prog w (K w.params) mg base (CX w) k fa fd [x] (sp w))
  (hsp:∀(w:World) (H:Hp) (a:Addr) (ns:List Int),ns.length<=n->aJV H->SqL (K w.params) H a (ns.map V.int)->sp w [.ref a] H (λv _=>v = .bl true) λ_ _ _=>False)
  (hCX:∀(w:World) (H:Hp) (s:Shared) (e:Value) (s':Shared),CX w [] H s (λ_ _ _=>False) e s'->False) :
  PySem.W.WalkO q loose XP YP l.row.toRowW d [] (λf vs=>PySem.call f vs):=by
 refine Att.attach_call hn hdf λw s₀ s₁ mg mb fa o pm cd doc a vs ns G Y ho hd hcd hmg hobj hints hlen hg=>?_
 have KX:=hY w _ Y
 obtain⟨fd,hb,hF⟩:=F w mg fa _ KX G.T.g hmg
 exact aDQ KX G.T.g G.T.b G.T.builtins G.T.nolimit hg hobj hints (cg hlen hn2) hr hF hb (λH hO hS=>hsp w H a ns hlen hO hS) λH e s'=>hCX w H s₁ e s'
def eS (s:Stmt):Arguments:=match s with
 | .FunctionDef _ a _ _ _ _ _ _ _ _=>a
 |_=>{ posonlyargs:=[],args:=[],vararg:=none,kwonlyargs:=[],kw_defaults:=[],kwarg:=none,defaults:=[] }
def cZ (s:Stmt):List Stmt:=match s with
 | .FunctionDef _ _ b _ _ _ _ _ _ _=>b
 |_=>[]
def bQ (s:Stmt):Scope:=match s with
 | .FunctionDef _ _ _ _ _ _ sc _ _ _=>sc
 |_=>{ kind := .function,names:=[],isGenerator:=false,isCoroutine:=false }
abbrev CX0:CXT:=λ_ _ _ _ _ _=>False
abbrev E0:XK:=λ_ _ _=>False
theorem aJq {X:Cx}:lG CX0 X E0:=λ_ _ _ _ _ _ _ h=>h.elim
structure Fun (K:aa)(x qual:Str)(st:Stmt)(f:Addr)(fd:FuncData):Prop where
 ex:∃(oc:Value) (od:Option Addr) (kV doc pm:Value) (an:Option Addr) (cdv ct:Value) (osl:Array (Option Value)),
  fd=jw x qual (eS st) (cZ st) (bQ st) .none kV doc pm an cdv ct/\K.lookup f=some ⟨oc,od, .func fd,osl⟩/\xb K cdv qual=true
 kp:o9 K (.ref f)=true
section
variable {P:Program}{w:World}{K:aa}{mg:Str->Option Value}{base:Heap}
theorem Fun.ok {x qual:Str}{st:Stmt}{f:Addr}{fd:FuncData}{N ps:List Str}{k:Nat}{sp:Sp}(F:Fun K x qual st f fd)(S:kC N ps (bQ st))(len:∀vs H Q E,sp vs H Q E->vs.length=ps.length)
  (hbody:∀(cdv:Value) (A:Around) (outer:List Env) (s:Shared) (H:Hp) (vs:List V) (Q:VK) (E:XK),Room k (A.deeper (zh qual (bQ st) s.heap.objs.size f cdv))->sp vs H Q E ->
   ∃t,PSs (vC CX0 P w K mg base N qual (bQ st) f cdv A outer s H E).nox (cZ st) t/\t { nx:=λ_ H'=>Q .non H',rt:=Q } (start N vs) H):FnOk P w K mg base CX0 (k+1) f fd ps sp:=by
 obtain⟨oc,od,kV,doc,pm,an,cdv,ct,osl,rfl,lk,hcd⟩:=F.ex
 refine aHz lk hcd S len λA outer s H vs Q E hr hsp=>?_
 obtain⟨t,h,q⟩:=hbody cdv A outer s H vs Q E hr hsp
 exact⟨t,h.nox,q⟩
theorem Fun.binds {x qual:Str}{st:Stmt}{f:Addr}{fd:FuncData}{ps:List Str}(F:Fun K x qual st f fd)
  (h:∀(kV doc pm:Value) (an:Option Addr) (cdv ct:Value) (us:List Value),us.length=ps.length->Af (jw x qual (eS st) (cZ st) (bQ st) .none kV doc pm an cdv ct) ⟨us,[]⟩=pure (ps.zip us)):Binds K fd ps []:=by
 obtain⟨oc,od,kV,doc,pm,an,cdv,ct,osl,rfl,lk,hcd⟩:=F.ex
 exact .all (h kV doc pm an cdv ct)
theorem yY {x qual:Str}{st:Stmt}{f:Addr}{oc:Value}{od an:Option Addr}{osl:Array (Option Value)}{kV doc pm cdv ct:Value}(l:K.lookup f=some ⟨oc,od, .func (jw x qual (eS st) (cZ st) (bQ st) .none kV doc pm an cdv ct),osl⟩)
  (c:xb K cdv qual=true) (k:o9 K (.ref f)=true):Fun K x qual st f (jw x qual (eS st) (cZ st) (bQ st) .none kV doc pm an cdv ct):=⟨⟨oc,od,kV,doc,pm,an,cdv,ct,osl,rfl,l,c⟩,k⟩
end
theorem fM {A:Around}{k:Nat}(hr:Room k A):A.units+1<cLine:=cw (AH (by decide:1<=64) _) hr.units
section
variable {X:Cx}
theorem pv (i:Nat){x:Str}{pos:Pos}(hN:X.N[i]?=some x:=by rfl)(hv:Vis X.env.scope x:=by first | exact Or.inl rfl | exact Or.inr (Or.inl rfl) | exact Or.inr (Or.inr rfl))(hd:(x == ("__debug__" : Str))=false:=by decide)
  (hcd:(x == ("__classdict__" : Str))=false:=by decide):PE X (.Name x pos) (aF i):=aHO hN hv hd hcd
end
theorem aHa {A B:Prop}(h:B):if false=true then A else B:=by
 rw[if_neg bh]
 exact h
theorem aHN {A B:Prop}(h:A):if true=true then A else B:=by
 rw[if_pos rfl]
 exact h
theorem aKR {c A B:Prop}[Decidable c](h1:c->A)(h2:¬ c->B):if c then A else B:=by
 by_cases h:c
 ·rw[if_pos h]
  exact h1 h
 ·rw[if_neg h]
  exact h2 h
def Same (H H':Hp):Prop:=∀b o,H b=some o->H' b=some o
theorem Same.refl (H:Hp):Same H H:=λ_ _ h=>h
theorem Same.trans {H H1 H2:Hp}(a:Same H H1)(b:Same H1 H2):Same H H2:=λc o h=>b c o (a c o h)
theorem Same.free {H H':Hp}(e:Same H H'){l:Addr}(h:H' l=Option.none):H l=Option.none:=by
 cases q:H l with
 |none=>rfl
 |some o=>
  rw[e l o q] at h
  cases h
theorem Same.seq {K:aa}{H H':Hp}{a:Addr}{xs:List V}(e:Same H H')(h:SqL K H a xs):SqL K H' a xs:=by
 rcases h with(h | ⟨o,h⟩) | h
 ·exact .inl (.inl (e _ _ h))
 ·exact .inl (.inr ⟨o,e _ _ h⟩)
 ·exact .inr h
section
variable {κ:Type}[DecidableEq κ]
def sE (kvs:List (κ×V)) (k:κ):Option V:=(kvs.find? λkv=>decide (kv.1=k)).map (·.2)
def pX (kvs:List (κ×V)) (k:κ) (v:V):List (κ×V):=
 if(kvs.any λkv=>decide (kv.1=k))=true then kvs.map (λkv=>if kv.1=k then(kv.1,v) else kv) else kvs++[(k,v)]
theorem iR {p:κ×V}{r:List (κ×V)}{k:κ}(e:p.1=k):sE (p :: r) k=some p.2:=by simp[sE,jl,e]
theorem jI {p:κ×V}{r:List (κ×V)}{k:κ}(e:¬ p.1=k):sE (p :: r) k=sE r k:=by simp[sE,jl,e]
theorem xX (k:κ):∀kvs:List (κ×V),(kvs.any λkv=>decide (kv.1=k))=(sE kvs k).isSome
 |[]=>rfl
 |p :: r=>by
  rw[u4]
  by_cases e:p.1=k
  ·simp only[iR e,decide_eq_true e,Bool.true_or,Option.isSome_some]
  ·rw[jI e,decide_eq_false e,Bool.false_or];exact xX k r
theorem iN (kvs:List (κ×V))(k:κ)(v:V):(pX kvs k v).length<=kvs.length+1:=by
 unfold pX
 split
 ·rw[ai];omega
 ·rw[ao,bq,qw];omega
theorem RelO.isSome_eq {o:Option V}{u:Option Value}(r:RelO o u):o.isSome=u.isSome:=by
 cases o with
 |none=>cases u with
  |none=>rfl
  |some _=>exact(show False from r).elim
 |some _=>cases u with
  |none=>exact(show False from r).elim
  |some _=>rfl
theorem KV.val {kvs:List (κ×V)}{vs:List (κ×Value)}(r:KV kvs vs)(k:κ):RelO (sE kvs k) (A7 vs k):=by
 unfold KV at r
 induction r with
 |nil=>exact True.intro
 | @cons p q ps qs h t ih=>
  obtain⟨h1,h2⟩:=h
  by_cases e:p.1=k
  ·have e':q.1=k:=h1.symm.trans e
   have b:A7 (q :: qs) k=some q.2:=by simp[A7,jl,e']
   rw[iR e,b];exact h2
  ·have e':¬ q.1=k:=λz=>e (h1.trans z)
   have b:A7 (q :: qs) k=A7 qs k:=by simp[A7,jl,e']
   rw[jI e,b];exact ih
theorem KV.any {kvs:List (κ×V)}{vs:List (κ×Value)}(r:KV kvs vs)(k:κ):(kvs.any λkv=>decide (kv.1=k))=vs.any λkv=>decide (kv.1=k):=by
 unfold KV at r
 induction r with
 |nil=>rfl
 |cons h t ih=>rw[u4,u4,ih,h.1]
theorem KV.repl {kvs:List (κ×V)}{vs:List (κ×Value)}(r:KV kvs vs)(k:κ){y:V}{u:Value}(ry:RelV y u) :
  KV (kvs.map λkv=>if kv.1=k then(kv.1,y) else kv) (vs.map λkv=>if kv.1=k then(kv.1,u) else kv):=by
 unfold KV at r ⊢
 induction r with
 |nil=>exact .nil
 | @cons p q ps qs h t ih=>
  rw[b8,b8]
  refine .cons ?_ ih
  obtain⟨h1,h2⟩:=h
  by_cases e:p.1=k
  ·rw[if_pos e,if_pos (h1.symm.trans e)];exact⟨h1,ry⟩
  ·rw[if_neg e,if_neg (λz=>e (h1.trans z))];exact⟨h1,h2⟩
theorem KV.put {kvs:List (κ×V)}{vs:List (κ×Value)}(r:KV kvs vs)(k:κ){y:V}{u:Value}(ry:RelV y u):KV (pX kvs k y) (stored vs k u):=by
 unfold pX stored
 rw[r.any k]
 by_cases e:(vs.any λkv=>decide (kv.1=k))=true
 ·rw[if_pos e,if_pos e];exact r.repl k ry
 ·rw[if_neg e,if_neg e];exact Paired.snoc r ⟨rfl,ry⟩
theorem KV.length {kvs:List (κ×V)}{vs:List (κ×Value)}(r:KV kvs vs):kvs.length=vs.length:=qo r
end
theorem aCk {P:Program}{w:World}{k:Key}{u:Value}(r:RelV (kV k) u):(cI P w).is k u=true:=by
 cases k with
 |inl i=>obtain⟨t,e⟩:=(show ∃t,u=Value.int i t from r);subst e;exact wI P w i t
 |inr x=>obtain⟨t,e⟩:=(show ∃t,u=Value.str x t from r);subst e;exact wA P w x t
theorem tJ {P:Program}{w:World}:∀{ks:List Key}{us:List Value},Vals (ks.map kV) us->ItemsAre (cI P w) ks us
 |[],_,r=>by rw[qi] at r;cases r;exact .nil
 |k :: ks,_,r=>by
  rw[b8] at r
  cases r with
  |cons h t=>exact .cons (aCk h) (tJ t)
abbrev KT (H:Hp):List (List Key×V)->List (List Key×Addr×Value)->Prop:=Paired λp q=>p.1=q.1/\H q.2.1=some (.tup (p.1.map kV))/\RelV p.2 q.2.2
theorem KT.val {H:Hp}{kvs:List (List Key×V)}{xs:List (List Key×Addr×Value)}(r:KT H kvs xs)(k:List Key):RelO (sE kvs k) ((atKey xs k).map (·.2)):=by
 induction r with
 |nil=>exact True.intro
 | @cons p q ps qs h t ih=>
  obtain⟨h1,_,h2⟩:=h
  by_cases e:p.1=k
  ·have e':q.1=k:=h1.symm.trans e
   have b:atKey (q :: qs) k=some q.2:=by simp[atKey,jl,e']
   rw[iR e,b];exact h2
  ·have e':¬ q.1=k:=λz=>e (h1.trans z)
   have b:atKey (q :: qs) k=atKey qs k:=by simp[atKey,jl,e']
   rw[jI e,b];exact ih
theorem KT.repl {H:Hp}{kvs:List (List Key×V)}{xs:List (List Key×Addr×Value)}(r:KT H kvs xs)(k:List Key){y:V}{u:Value}(ry:RelV y u) :
  KT H (kvs.map λkv=>if kv.1=k then(kv.1,y) else kv) (xs.map (putAt k u)):=by
 induction r with
 |nil=>exact .nil
 | @cons p q ps qs h t ih=>
  rw[b8,b8]
  refine .cons ?_ ih
  obtain⟨h1,h2,h3⟩:=h
  unfold putAt
  by_cases e:p.1=k
  ·rw[if_pos e,if_pos (h1.symm.trans e)];exact⟨h1,h2,ry⟩
  ·rw[if_neg e,if_neg (λz=>e (h1.trans z))];exact⟨h1,h2,h3⟩
theorem KT.put {H:Hp}{kvs:List (List Key×V)}{xs:List (List Key×Addr×Value)}(r:KT H kvs xs)(k:List Key){b:Addr}{y:V}{u:Value}(hb:H b=some (.tup (k.map kV)))(ry:RelV y u) :
  KT H (pX kvs k y) (storedH xs k b u):=by
 have e:(kvs.any λkv=>decide (kv.1=k))=(atKey xs k).isSome:=by
  rw[xX,(r.val k).isSome_eq,Option.isSome_map]
 unfold pX storedH
 rw[e]
 by_cases q:(atKey xs k).isSome=true
 ·rw[if_pos q,if_pos q];exact r.repl k ry
 ·rw[if_neg q,if_neg q];exact Paired.snoc r ⟨rfl,hb,ry⟩
theorem KT.keeps {H H':Hp}{kvs:List (List Key×V)}{xs:List (List Key×Addr×Value)}(r:KT H kvs xs)(ht:∀b ys,H b=some (.tup ys)->H' b=some (.tup ys)):KT H' kvs xs:=
 Paired.mapP r λ_ _ z=>⟨z.1,ht _ _ z.2.1,z.2.2⟩
section
variable {P:Program}{w:World}{H:Hp}{h:Heap}{a:Addr}
theorem aHJ {u:HO}(ok:HOk P w H h)(e:Rd H a u):ObjOk P w H h a u:=e.ok ok
theorem aBr {kvs:List (Key×V)}(ok:HOk P w H h)(e:Rd H a (.dK kvs)):kvs.length<=ba/\(a == jt)=false/\∃vs,KV kvs vs/\h.DictOf (cI P w) a vs:=
 show ObjOk P w H h a (.dK kvs) from aHJ ok e
theorem aIx {kvs:List (Key×V)}(ok:HOk P w H h)(e:H a=some (.dK kvs)):kvs.length<=ba/\(a == jt)=false/\∃vs,KV kvs vs/\h.DictOf (cI P w) a vs:=aBr ok (.inl e)
theorem yG {ks:List Key}(ok:HOk P w H h)(e:H a=some (.tup (ks.map kV))):(AQ (cI P w)).is h ks a:=by
 obtain⟨_,its,r,o,h1,h2,⟨n,h3⟩,_⟩:=(show ObjOk P w H h a (.tup (ks.map kV)) from ok a _ e)
 exact⟨o,its.toArray,n,h1,h2,h3,by simpa using tJ r⟩
theorem aDP {kvs:List (List Key×V)}(ok:HOk P w H h)(e:Rd H a (.dT kvs)):kvs.length<=ba/\(a == jt)=false /\
  ∃xs,KT H kvs xs/\h.DictOfH (AQ (cI P w)) a xs:=by
 obtain⟨z,y,xs,r,o,es,ep,h1,h2,h3,h4,h5⟩:=(show ObjOk P w H h a (.dT kvs) from aHJ ok e)
 refine⟨z,y,xs,r,o,es,ep,h1,h2,h3,h4,λx hx=>?_,h5⟩
 have all:∀{l:List (List Key×V)}{m:List (List Key×Addr×Value)},KT H l m->∀x∈m,(AQ (cI P w)).is h x.1 x.2.1:=by
  intro l m q
  induction q with
  |nil=>intro x hx;exact nomatch hx
  | @cons p q ps qs hq t ih=>
   intro x hx
   rcases b6.mp hx with e | hx
   ·subst e
    exact yG ok (by rw[<- hq.1];exact hq.2.1)
   ·exact ih x hx
 exact all r x hx
theorem aJn {kvs:List (List Key×V)}(ok:HOk P w H h)(e:H a=some (.dT kvs)):kvs.length<=ba/\(a == jt)=false /\
  ∃xs,KT H kvs xs/\h.DictOfH (AQ (cI P w)) a xs:=aDP ok (.inl e)
end
def DGet (H:Hp) (a:Addr) (y:V) (r:Option V):Prop:=
 (∃kvs k,Rd H a (.dK kvs)/\y=kV k/\r=sE kvs k)\/∃kvs k b,Rd H a (.dT kvs)/\y = .ref b/\H b=some (.tup (k.map kV))/\r=sE kvs k
def DPut (H:Hp) (a:Addr) (y v:V) (H':Hp):Prop:=
 (∃kvs k,H a=some (.dK kvs)/\y=kV k/\kvs.length<ba/\H'=upd H a (.dK (pX kvs k v))) \/
 ∃kvs k b,H a=some (.dT kvs)/\y = .ref b/\H b=some (.tup (k.map kV))/\kvs.length<ba/\H'=upd H a (.dT (pX kvs k v))
theorem DGet.k {H:Hp}{a:Addr}{kvs:List (Key×V)}{k:Key}(e:H a=some (.dK kvs)):DGet H a (kV k) (sE kvs k) := .inl ⟨kvs,k, .inl e,rfl,rfl⟩
theorem DGet.t {H:Hp}{a b:Addr}{kvs:List (List Key×V)}{k:List Key}(e:H a=some (.dT kvs))(eb:H b=some (.tup (k.map kV))):DGet H a (.ref b) (sE kvs k) := .inr ⟨kvs,k,b, .inl e,rfl,eb,rfl⟩
theorem DPut.k {H:Hp}{a:Addr}{kvs:List (Key×V)}{k:Key}{v:V}(e:H a=some (.dK kvs))(hl:kvs.length<ba):DPut H a (kV k) v (upd H a (.dK (pX kvs k v))) := .inl ⟨kvs,k,e,rfl,hl,rfl⟩
theorem DPut.t {H:Hp}{a b:Addr}{kvs:List (List Key×V)}{k:List Key}{v:V}(e:H a=some (.dT kvs))(eb:H b=some (.tup (k.map kV)))(hl:kvs.length<ba) :
  DPut H a (.ref b) v (upd H a (.dT (pX kvs k v))) := .inr ⟨kvs,k,b,e,rfl,eb,hl,rfl⟩
section
variable {X:Cx}{pins:List (Addr×Obj)}{σ:St}{H:Hp}{s:Shared}{a:Addr}{y v:V}{u r:Value}{o:Option V}{A:Around}{E:Value->Shared->Prop}
theorem Inv.big (I:Inv X pins σ H s):jt<s.heap.objs.size:=by
 have h:cp<s.heap.objs.size:=(I.mod.glob.keeps I.bk).lt
 exact Nat.lt_trans (by decide) h
theorem aCH {Q:Value->Shared->Prop}(hu:A.units+1<cLine)(I:Inv X pins σ H s)(g:DGet H a y (some v))(ry:RelV y u)(h:∀w' s',Inv X pins σ H s'->RelV v w'->Q w' s') :
  wpAny (model X.prog X.w) A (yd (.ref a) u) Q E s:=by
 rcases g with⟨kvs,k,e,ey,l⟩ | ⟨kvs,k,b,e,ey,eb,l⟩
 ·subst ey
  obtain⟨z,hd,vs,rel,dd⟩:=aBr I.hok e
  obtain⟨w',hw,rw'⟩:=RelO.some_of (v:=v) (o:=A7 vs k) (by rw[l];exact rel.val k)
  exact wpAny_getItem_of (aCk ry) dd.mapOf hw (h w' _ (I.tok _) rw')
 ·subst ey
  cases (show u=Value.ref b from ry)
  obtain⟨z,hd,xs,rel,dd⟩:=aDP I.hok e
  obtain⟨w',hw,rw'⟩:=RelO.some_of (v:=v) (o:=(atKey xs k).map (·.2)) (by rw[l];exact rel.val k)
  obtain⟨p,hp,hp2⟩:=ip.mp hw
  refine wpAny_getItem_heap (wm hu) (yG I.hok eb) dd hp ?_
  rw[hp2]
  exact h w' _ (I.tok _) rw'
theorem aGQ {Q:Value->Shared->Prop}(hu:A.units+1<cLine)(I:Inv X pins σ H s)(g:DGet H a y o)(ry:RelV y u)(h:∀s',Inv X pins σ H s'->Q (.bool (!o.isSome)) s') :
  wpAny (model X.prog X.w) A (i8 .NotIn u (.ref a)) Q E s:=by
 rcases g with⟨kvs,k,e,ey,l⟩ | ⟨kvs,k,b,e,ey,eb,l⟩
 ·subst ey
  obtain⟨z,hd,vs,rel,dd⟩:=aBr I.hok e
  refine wpAny_notIn_of (aCk ry) hd dd.mapOf ?_
  rw[<- (rel.val k).isSome_eq,<- l]
  exact h _ (I.tok _)
 ·subst ey
  cases (show u=Value.ref b from ry)
  obtain⟨z,hd,xs,rel,dd⟩:=aDP I.hok e
  refine wpAny_notIn_heap (wm hu) (yG I.hok eb) hd dd ?_
  have q:=(rel.val k).isSome_eq
  rw[Option.isSome_map] at q
  rw[<- q,<- l]
  exact h _ (I.tok _)
theorem rH {h':Heap}{t':Nat}{ob:HO}(I:Inv X pins σ H s)(mu:Mut (H a))(hs:je a s.heap h')(he:∃q,h'.get? a=some q)(new:ObjOk X.prog X.w (upd H a ob) h' a ob) :
  Inv X pins σ (upd H a ob) { s with heap:=h',toks:=t' }:=
 I.write (x:=a) (e:=a) mu (.inl rfl) (λb q hb z=>(hs.2 b hb).trans z) he new
theorem aEW {P:Program}{w:World}{H':Hp}{h':Heap}{kvs:List (Key×V)}{vs:List (Key×Value)}(z:kvs.length<=ba)(hd:(a == jt)=false)(rel:KV kvs vs)(dd:h'.DictOf (cI P w) a vs) :
  ObjOk P w H' h' a (.dK kvs):=⟨z,hd,vs,rel,dd⟩
theorem aAK {H':Hp}{Q:Unit->Shared->Prop}(hu:A.units+1<cLine)(I:Inv X pins σ H s)(g:DPut H a y v H')(ry:RelV y u)(rv:RelV v r)(h:∀s',Inv X pins σ H' s'->Q () s') :
  wpAny (model X.prog X.w) A (setItem (.ref a) u r) Q E s:=by
 rcases g with⟨kvs,k,e,ey,l,eH⟩ | ⟨kvs,k,b,e,ey,eb,l,eH⟩
 ·subst ey eH
  obtain⟨z,hd,vs,rel,dd⟩:=aIx I.hok e
  have hz:vs.length<=ba:=by rw[<- rel.length];exact z
  have hl:(pX kvs k v).length<=ba:=by have:=iN kvs k v;omega
  refine wpAny_setItem_pairs (hsz:=hz) (aCk ry) dd λh' dd' hs=>h _ ?_
  have he:∃q,h'.get? a=some q:=let⟨q,_,_,hq,_⟩:=dd';⟨q,hq⟩
  exact rH I (by rw[e];exact True.intro) hs he (aEW hl hd (rel.put k rv) dd')
 ·subst ey eH
  cases (show u=Value.ref b from ry)
  obtain⟨z,hd,xs,rel,dd⟩:=aJn I.hok e
  have hz:xs.length<=ba:=by rw[<- qo rel];exact z
  have hl:(pX kvs k v).length<=ba:=by have:=iN kvs k v;omega
  refine wpAny_setItem_heap (hsz:=hz) (wm hu) (yG I.hok eb) dd λh' dd' hs=>h _ ?_
  obtain⟨q,es,ep,hq,h2,h3,h4,_,h5⟩:=dd'
  refine rH I (by rw[e];exact True.intro) hs ⟨q,hq⟩ ⟨hl,hd,_,(rel.put k eb rv).keeps λc ys ec=>?_,q,es,ep,hq,h2,h3,h4,h5⟩
  rw[aL (ne_of ec e (λz=>nomatch z))]
  exact ec
end
section
variable {X:Cx}{pins:List (Addr×Obj)}{σ:St}{H:Hp}{s:Shared}{a:Addr}{kvs:List (Key×V)}{k:Key}{u:Value}{A:Around}{E:Value->Shared->Prop}
theorem aJJ {Q:Value->Shared->Prop}(I:Inv X pins σ H s)(e:Rd H a (.dK kvs))(h:∀t s',Inv X pins σ H s'->Q (.int kvs.length t) s'):wpAny (model X.prog X.w) A (call (.builtin "len") [.ref a]) Q E s:=by
 obtain⟨z,hd,vs,rel,dd⟩:=aBr I.hok e
 refine call_len_dict hd dd (by rw[<- rel.length];rw[tj] at z;omega) ?_
 rw[<- rel.length]
 exact h _ _ (I.tok _)
end
def aJU (i:Expr):Prop:=∀ov iv,AE i false ov iv=operate [ov,iv] (yd ov iv)
theorem aBu {prog:Program}{w:World}{A:Around}{E:Value->Shared->Prop}{s:Shared}{env:Env}{value slice:Expr}{pos:Pos}{T id:String}{Q:Value->Shared->Prop}
  (hl:typeLookup (.type T) "__getitem__" = pure (some (.builtin id))) (hs:aJU slice)
  (h:wpAny (model prog w) A (eval value env) (λo s₁=>wpAny (model prog w) A (eval slice env) (λi s₂=>s₂.TypeIs o T/\wpAny (model prog w) A (yd o i) Q E s₂) E s₁) E s) :
  wpAny (model prog w) A (eval (.Subscript value slice pos) env) Q E s:=by
 refine Subscript_ (fz h (λo s₁ h₁=>fz h₁ (λi s₂ h₂=>?_) λ_ _ x=>x) λ_ _ x=>x)
 obtain⟨hT,h₂⟩:=h₂
 unfold AV
 refine af ?_
 rw[getitemInPython_of_ne hT.not_modules]
 refine af (qx hT hl ?_)
 have fin:wpAny (model prog w) A (AE slice false o i) (λr s₃=>wpAny (model prog w) A (letTemporaryGo value o r >>= λ_=>pure r) Q E s₃) E s₂:=by
  rw[hs o i]
  exact wpAny_operating (fz h₂ (λr s₃ h₃=>af (wpAny_letTemporaryGo (aq h₃))) λ_ _ x=>x)
 first
  |exact aq (af fin)
  |exact af (aq (af fin))
  |exact af fin
theorem wH {X:Cx}{pins:List (Addr×Obj)}{σ:St}{H:Hp}{s:Shared}{a:Addr}{y:V}{o:Option V}(I:Inv X pins σ H s)(g:DGet H a y o):s.TypeIs (.ref a) "dict":=by
 rcases g with⟨kvs,k,e,_,_⟩ | ⟨kvs,k,b,e,_,_,_⟩
 ·obtain⟨_,_,vs,_,dd⟩:=aBr I.hok e
  exact dd.typeIs
 ·obtain⟨_,_,xs,_,dd⟩:=aDP I.hok e
  exact dd.typeIs
def iJ (td ty:TE):TE:=λσ H Q=>td σ H λx H1=>ty σ H1 λy H2=>∃a v,x = .ref a/\DGet H2 a y (some v)/\Q v H2
def aBk (ty td:TE):TE:=λσ H Q=>ty σ H λy H1=>td σ H1 λx H2=>∃a o,x = .ref a/\DGet H2 a y o/\Q (.bl (!o.isSome)) H2
def lU (td ty tv:TE):TS:=λD σ H=>tv σ H λv H1=>td σ H1 λx H2=>ty σ H2 λy H3=>∃a H4,x = .ref a/\DPut H3 a y v H4/\D.nx σ H4
section
variable {X:Cx}{o i e value:Expr}{pos pos' tpos:Pos}{td ty tv:TE}
theorem dR (hu:X.A.units+1<cLine)(ho:PE X o td)(hi:PE X i ty)(hs:aJU i):PE X (.Subscript o i pos) (iJ td ty):=by
 intro pins s σ H Q I h
 refine aBu xc.lookup hs (thn (ho pins s σ H _ I h) λu s1 ⟨x,H1,I1,rx,q1⟩=>thn (hi pins s1 σ H1 _ I1 q1) λiv s2 ⟨y,H2,I2,ry,a,v,ex,g,q2⟩=>?_)
 subst ex
 obtain rfl:u=Value.ref a:=rx
 exact⟨wH I2 g,aCH hu I2 g ry λw' s3 I3 rw'=>⟨v,H2,I3,rw',q2⟩⟩
theorem aBa (hu:X.A.units+1<cLine)(hi:PE X i ty)(ho:PE X o td):PC X .NotIn i o (aBk ty td):=by
 intro pins s σ H Q I h
 refine thn (hi pins s σ H _ I h) λiv s1 ⟨y,H1,I1,ry,q1⟩=>thn (ho pins s1 σ H1 _ I1 q1) λu s2 ⟨x,H2,I2,rx,a,ov,ex,g,q2⟩=>?_
 subst ex
 obtain rfl:u=Value.ref a:=rx
 exact aGQ hu I2 g ry λs3 I3=>⟨.bl (!ov.isSome),H2,I3,rfl,q2⟩
theorem kL (hu:X.A.units+1<cLine)(ho:PE X o td)(hi:PE X i ty)(hv:PE X value tv)(hs:AR value (some (.Subscript o i pos')) pos.line X.env=pure false) :
  PS X (.Assign [.Subscript o i pos'] value pos) (lU td ty tv):=by
 intro pins s σ H D I h
 refine y8 (thn (hv pins s σ H _ I h) λr s1 ⟨v,H1,I1,rv,q1⟩=>thn (ho pins s1 σ H1 _ I1 q1) λu s2 ⟨x,H2,I2,rx,q2⟩=>thn (hi pins s2 σ H2 _ I2 q2) λiv s3 ⟨y,H3,I3,ry,a,H4,ex,g,q3⟩=>?_) hs
 subst ex
 obtain rfl:u=Value.ref a:=rx
 exact aAK hu I3 g ry rv λs4 I4=>⟨σ,H4,I4,q3⟩
end
theorem yA {P:Program}{w:World}{H:Hp}(h:Heap)(hb:jt<h.objs.size):ObjOk P w H (h.push { cls := .type "dict",data := .dict #[] }) h.objs.size (.dK []):=
 ⟨bc _,beq_eq_false_iff_ne.mpr (jh (df hb)),[], .nil,Heap.DictOf.new h⟩
def aER:TE:=λ_ H Q=>∀p,H p=none->Q (.ref p) (upd H p (.dK []))
section
variable {X:Cx}{pos:Pos}
theorem aDV:PE X (.Dict [] [] pos) aER:=λpins s σ H Q I h=>
 wpAny_Dict_empty ⟨.ref s.heap.objs.size,_,I.laid (a:=s.heap.objs.size) (o := .dK []) (t':=s.toks) (λ_ _ q=>ak _ q) (ay _) (yA s.heap I.big),rfl,h _ (I.hok.fresh (ay _))⟩
end
def aBi:List (TE×TE)->St->Hp->(List (V×V)->Hp->Prop)->Prop
 |[],_,H,Q=>Q [] H
 | (tk,tv) :: r,σ,H,Q=>tk σ H λx H1=>tv σ H1 λy H2=>aBi r σ H2 λps H3=>Q ((x,y) :: ps) H3
abbrev VV:List (V×V)->List (Value×Value)->Prop:=Paired λp q=>RelV p.1 q.1/\RelV p.2 q.2
def PPs (X:Cx) (pos:Pos) (keys:List (Option Expr)) (values:List Expr) (trs:List (TE×TE)):Prop:=
 ∀(pins:List (Addr×Obj)) (s:Shared) (σ:St) (H:Hp) (Q:List (V×V)->Hp->Prop),Inv X pins σ H s->aBi trs σ H Q ->
  wpAny (model X.prog X.w) X.A (evalPairs (pairTrees keys values X.env pos)) (λvs s'=>∃ps H',Inv X pins σ H' s'/\VV ps vs/\Q ps H') X.xe s
theorem aBQ {X:Cx}{pos:Pos}:PPs X pos [] [] []:=λpins s σ H Q I h=>pairTrees_nil_walk ⟨[],H,I, .nil,h⟩
theorem xM {X:Cx}{pos:Pos}{k v:Expr}{ks:List (Option Expr)}{vs:List Expr}{tk tv:TE}{trs:List (TE×TE)}(hk:PE X k tk)(hv:PE X v tv)(hr:PPs X pos ks vs trs) :
  PPs X pos (some k :: ks) (v :: vs) ((tk,tv) :: trs):=λpins s σ H Q I h=>
 pairTrees_cons_walk (thn (hk pins s σ H _ I h) λu s1 ⟨x,H1,I1,rx,q1⟩=>thn (hv pins s1 σ H1 _ I1 q1) λw2 s2 ⟨y,H2,I2,ry,q2⟩=>
  thn (hr pins s2 σ H2 _ I2 q2) λws s3 ⟨ps,H3,I3,rel,q3⟩=>⟨(x,y) :: ps,H3,I3, .cons ⟨rx,ry⟩ rel,q3⟩)
def nB (kvs more:List (Key×V)):List (Key×V):=more.foldl (λacc kv=>pX acc kv.1 kv.2) kvs
theorem KV.merge:∀{more:List (Key×V)}{rs:List (Key×Value)}{kvs:List (Key×V)}{vs:List (Key×Value)},KV more rs->KV kvs vs->KV (nB kvs more) (merged vs rs):=by
 intro more rs kvs vs r
 unfold KV at r
 induction r generalizing kvs vs with
 |nil=>intro q;exact q
 | @cons p q ps qs h t ih=>
  intro r0
  have e:KV (pX kvs p.1 p.2) (stored vs q.1 q.2):=by
   have:=r0.put p.1 h.2
   rw[<- h.1];exact this
  exact ih e
theorem jM:∀(more kvs:List (Key×V)),(nB kvs more).length<=kvs.length+more.length
 |[],kvs=>by show kvs.length<=kvs.length+0;omega
 |p :: r,kvs=>by
  have h1:=jM r (pX kvs p.1 p.2)
  have h2:=iN kvs p.1 p.2
  show(nB (pX kvs p.1 p.2) r).length<=_
  rw[bq];omega
theorem pB {P:Program}{w:World}:∀{kvs:List (Key×V)}{ws:List (Value×Value)},VV (kvs.map λkv=>(kV kv.1,kv.2)) ws->∃rs,Carries (cI P w) ws rs/\KV kvs rs
 |[],_,r=>by rw[qi] at r;cases r;exact⟨[],True.intro, .nil⟩
 |p :: kvs,_,r=>by
  rw[b8] at r
  cases r with
  | @cons a b as bs h t=>
   obtain⟨rs,c,q⟩:=pB (P:=P) (w:=w) t
   obtain⟨b1,b2⟩:=b
   exact⟨(p.1,b2) :: rs,⟨aCk h.1,rfl,c⟩, .cons ⟨rfl,h.2⟩ q⟩
def aFw (trs:List (TE×TE)):TE:=λσ H Q=>∀p,H p=none->aBi trs σ (upd H p (.dK [])) λps H2=>H2 p=some (.dK [])/\∃kvs:List (Key×V),ps=kvs.map (λkv=>(kV kv.1,kv.2))/\kvs.length<=15/\Q (.ref p) (upd H2 p (.dK (nB [] kvs)))
theorem aAM {X:Cx}{pos:Pos}{keys:List (Option Expr)}{values:List Expr}{trs:List (TE×TE)}(h:PPs X pos keys values trs)(hall:keys.all (·.isSome)=true)(hl:keys.length=values.length)(h0:keys≠[])
  (h15:keys.length<=15):PE X (.Dict keys values pos) (aFw trs):=by
 intro pins s σ H Q I q
 have hn:=I.hok.fresh (ay s.heap.objs.size)
 have I1:=I.laid (a:=s.heap.objs.size) (o := .dK []) (h':=s.heap.push { cls := .type "dict",data := .dict #[] }) (t':=s.toks) (λ_ _ q=>ak _ q) (ay _) (yA s.heap I.big)
 refine wpAny_Dict_walk (knd:=cI X.prog X.w) hall hl h0 h15 (thn (h pins _ σ _ _ I1 (q _ hn)) λws s2 ⟨ps,H2,I2,rel,e,kvs,ep,lk,q2⟩=>?_)
 subst ep
 obtain⟨rs,c,rk⟩:=pB (P:=X.prog) (w:=X.w) rel
 obtain⟨z,hd,vs0,r0,dd⟩:=aIx I2.hok e
 cases r0
 refine⟨rs,c,dd,λh' dd' hs=>⟨.ref s.heap.objs.size,_,?_,rfl,q2⟩⟩
 have hz:(nB [] kvs).length<=ba:=by
  have h1:=jM kvs []
  rw[qw] at h1
  rw[tj];omega
 have he:∃q,h'.get? s.heap.objs.size=some q:=let⟨q,_,_,hq,_⟩:=dd';⟨q,hq⟩
 exact rH I2 (by rw[e];exact True.intro) hs he (aEW hz hd (rk.merge .nil) dd')
section
variable {X:Cx}{pins:List (Addr×Obj)}{σ:St}{H:Hp}{s:Shared}{a:Addr}{y d:V}{u r:Value}{o:Option V}{A:Around}{E:Value->Shared->Prop}
end
section
variable {X:Cx}{o e f:Expr}{apos cpos:Pos}{td ty tx:TE}
end
section
variable {X:Cx}{pins:List (Addr×Obj)}{σ:St}{H:Hp}{s:Shared}{a:Addr}{kvs:List (Key×V)}{A:Around}{E:Value->Shared->Prop}
end
section
variable {X:Cx}{pins:List (Addr×Obj)}{σ:St}{H:Hp}{s:Shared}{a:Addr}{y:V}{u:Value}{A:Around}{E:Value->Shared->Prop}
end
section
variable {X:Cx}
theorem aAV:CallR X (.builtin "len") (λxs H Q=>∃a kvs,xs=[V.ref a]/\H a=some (.dK kvs)/\Q (.int kvs.length) H):=by
 intro pins s σ H xs us Q I r h
 obtain⟨a,kvs,rfl,ha,q⟩:=h
 obtain⟨u,rfl,ru⟩:=nQ r
 cases ru
 exact aJJ I (.inl ha) λt s' I'=>⟨.int kvs.length,H,I',⟨t,rfl⟩,q⟩
end
section
variable {κ:Type}[DecidableEq κ]
theorem qC:∀{l:List κ}{k:κ},l.Nodup->¬ k∈l->(l++[k]).Nodup
 |[],k,_,_=>by simp
 |a :: r,k,h,hk=>by
  obtain⟨h1,h2⟩:=de.mp h
  show(a :: (r++[k])).Nodup
  refine de.mpr ⟨λm=>?_,qC h2 λm=>hk (b6.mpr (Or.inr m))⟩
  rcases b9.mp m with q | q
  ·exact h1 q
  ·exact hk (b6.mpr (Or.inl (bb.mp q).symm))
end
def eK (J:It) (g:TG) (tb:TS):TS:=λD σ H=>∃W:Nat->Nat->St->Hp->Prop,(∃m,W 0 m σ H)/\∀i m σ H,W i m σ H ->
 (J.stop i H/\D.nx σ H)\/(J.go i H/\∃N:St->Hp->Prop,(∀σ' H',N σ' H'->∃m',m'<m/\W (i+1) m' σ' H')/\∀x H',J.yld i H x H'->g x σ H' λσ2 H2=>tb { D with nx:=N,ct:=N,bk:=D.nx } σ2 H2)
def uG (elt:Expr) (gens:List Comprehension) (scope:Scope) (pos:Pos) (d:Nat) (acc:Value) (env:Env) (k:Sem Fin):Sem Fin:=
 match gens[d+1]? with
 |some g'=>eval g'.iter env >>= λx=>Az g'.iter.pos >>= λ_=>oz g'.iter env x >>= λx=>ya [x] (Bd x) >>= λi=>
   runOwn (.compStart (.ListComp elt gens scope pos) (d+1) i acc env) env >>= λ_=>k
 |none=>(eval elt env >>= λx=>call (.builtin "list.append") [acc,x] >>= λ_=>pure ()) >>= λ_=>k
theorem vU {elt target iter:Expr}{ifs:List Expr}{gens:List Comprehension}{scope:Scope}{pos:Pos}{d:Nat}(it acc:Value)(env:Env)(hg:gens[d]?=some ⟨target,iter,ifs,0⟩)
  (hn:∀g',gens[d+1]?=some g'->g'.is_async=0) :
  compTurn (.ListComp elt gens scope pos) d it acc env=(Az iter.pos >>= λ_=>wd it >>= λr=>match r with
   |none=>pure (.done .next)
   |some v=>vf target it v >>= λ_=>Bc target env v >>= λ_=>
    (forIn ifs true λc r=>if r=true then do let ok <- isTrue c env (eval c env);pure (ForInStep.yield ok) else pure (ForInStep.yield r)) >>= λok=>
     if ok=true then uG elt gens scope pos d acc env (again (.compLoop (.ListComp elt gens scope pos) d it acc env))
     else again (.compLoop (.ListComp elt gens scope pos) d it acc env)):=by
 unfold compTurn uG
 simp only[hg]
 cases h:gens[d+1]? with
 |none=>rfl
 |some g'=>
  obtain⟨t',i',f',a'⟩:=g'
  have e:a'=0:=hn _ h
  subst e
  rfl
def fV:List TT->TS->TS
 |[],tb=>tb
 |c :: r,tb=>gP c (fV r tb) aQ
inductive PTs (X:Cx):List Expr->List TT->Prop
 |nil:PTs X [] []
 |cons {c:Expr}{cs:List Expr}{t:TT}{ts:List TT}:PT X c t->PTs X cs ts->PTs X (c :: cs) (t :: ts)
section
variable {X:Cx}
theorem vS {cs:List Expr}{s:Shared}{Q:Bool->Shared->Prop}{E:Value->Shared->Prop}(h:Q false s) :
  wpAny (model X.prog X.w) X.A (forIn cs false λc r=>if r=true then do let ok <- isTrue c X.env (eval c X.env);pure (ForInStep.yield ok) else pure (ForInStep.yield r)) Q E s:=by
 induction cs with
 |nil=>rw[j9];exact aq h
 |cons c cs ih=>
  rw[i9,if_neg bh]
  exact af (aq ih)
theorem uN {tb:TS}{D:hU}{pins:List (Addr×Obj)}:∀{cs:List Expr}{ts:List TT},PTs X cs ts->∀{s:Shared}{σ:St}{H:Hp},Inv X pins σ H s->fV ts tb D σ H ->
  wpAny (model X.prog X.w) X.A (forIn cs true λc r=>if r=true then do let ok <- isTrue c X.env (eval c X.env);pure (ForInStep.yield ok) else pure (ForInStep.yield r))
   (λok s'=>∃H',Inv X pins σ H' s'/\if ok=true then tb D σ H' else D.nx σ H') X.xe s
 |_,_, .nil,s,σ,H,I,h=>by rw[j9];exact aq ⟨H,I,by rw[if_pos rfl];exact h⟩
 |_,_, .cons (cs:=cs) hc hr,s,σ,H,I,h=>by
  rw[i9,if_pos rfl]
  refine af (af (thn (hc pins s σ H _ I h) λb s1 ⟨H1,I1,q1⟩=>aq ?_))
  cases b with
  |true=>
   rw[if_pos rfl] at q1
   exact uN hr I1 q1
  |false=>
   rw[if_neg bh] at q1
   exact vS ⟨H1,I1,by rw[if_neg bh];exact q1⟩
end
def PB (X:Cx) (elt:Expr) (gens:List Comprehension) (scope:Scope) (pos:Pos) (d:Nat) (acc:Addr) (t:TS):Prop:=
 ∀(pins:List (Addr×Obj)) (s:Shared) (σ:St) (H:Hp) (D:hU) (k:Sem Fin) (Q:Fin->Shared->Prop) (E:Value->Shared->Prop),Inv X pins σ H s->t D σ H ->
  (∀s' σ' H',Inv X pins σ' H' s'->D.nx σ' H'->wpAny (model X.prog X.w) X.A k Q E s')->wpAny (model X.prog X.w) X.A (uG elt gens scope pos d (.ref acc) X.env k) Q E s
def cP (te:TE) (acc:Addr):TS:=λD σ H=>te σ H λx H1=>∃xs,H1 acc=some (.lst xs)/\xs.length<ba/\D.nx σ (upd H1 acc (.lst (xs++[x])))
section
variable {X:Cx}
theorem bZ {elt:Expr}{gens:List Comprehension}{scope:Scope}{pos:Pos}{d:Nat}{acc:Addr}{te:TE}(hx:X.xe=λ_ _=>False)(he:PE X elt te)(hl:gens[d+1]?=none):PB X elt gens scope pos d acc (cP te acc):=by
 intro pins s σ H D k Q E I h hk
 unfold uG
 rw[hl]
 refine af (af (fz (he pins s σ H _ I h) (λv s1 ⟨x,H1,I1,r1,xs,ha,hz,q⟩=>?_) λ_ _ z=>by rw[hx] at z;exact z.elim))
 have hm:=gH (X:=X) pins s1 σ H1 (.ref acc) [x] (.ref acc) [v] (λv H'=>v = .non/\D.nx σ H') I1 rfl (.cons r1 .nil) ⟨acc,xs,x,rfl,rfl,ha,hz,rfl,q⟩
 refine af (fz hm (λ_ s2 ⟨x2,H2,I2,r2,_,q2⟩=>aq (hk s2 σ H2 I2 q2)) λ_ _ z=>by rw[hx] at z;exact z.elim)
theorem tW {elt target iter:Expr}{ifs:List Expr}{gens:List Comprehension}{scope:Scope}{pos:Pos}{d:Nat}{acc it:Addr}{fp:List Addr}{tn:Nat->Heap->Prop}{J:It}{g:TG}{ts:List TT}{tb:TS}{D:hU}{pins:List (Addr×Obj)}{s:Shared}{σ:St}{H:Hp}
  (hx:X.xe=λ_ _=>False) (hc:X.calm=true) (hgd:gens[d]?=some ⟨target,iter,ifs,0⟩) (hn:∀g',gens[d+1]?=some g'->g'.is_async=0)
  (hg:PG X target g) (hts:PTs X ifs ts) (hb:PB X elt gens scope pos d acc tb)
  (T:aDc X.prog X.w X.K target J fp it tn) (I:Inv X pins σ H s) (st:tn 0 s.heap) (hf:∀b∈fp,sY X pins H b) (h:eK J g (fV ts tb) D σ H) :
  vg (model X.prog X.w) X.A (.compStart (.ListComp elt gens scope pos) d (.ref it) (.ref acc) X.env) (λr s'=>∃f,r = .ok f/\∃σ' H',Inv X pins σ' H' s'/\D.nx σ' H') s:=by
 have stat:∀{H':Hp},(∀b∈fp,H' b=none)->∀b∈fp,sY X pins H' b:=λhn b hb=>⟨hn b hb,(hf b hb).2⟩
 obtain⟨W,⟨m0,w0⟩,turn⟩:=h
 have E0:∀(e:Value) (s':Shared),X.xe e s'->notedBy (model X.prog X.w) X.A X.env (λe s'=>∃f,(Except.error e:Bs) = .ok f/\∃σ' H',Inv X pins σ' H' s'/\D.nx σ' H') e s':=λe s' z=>by rw[hx] at z;exact z.elim
 have loop:vg (model X.prog X.w) X.A (.compLoop (.ListComp elt gens scope pos) d (.ref it) (.ref acc) X.env) (λr s'=>∃f,r = .ok f/\∃σ' H',Inv X pins σ' H' s'/\D.nx σ' H') s:=by
  refine codeAny_loop rfl (λn s'=>∃i σ' H',Inv X pins σ' H' s'/\tn i s'.heap/\(∀b∈fp,H' b=none)/\W i n σ' H') ?_ m0 ⟨0,σ,H,I,st,λb hb=>(hf b hb).1,w0⟩
  rintro n s3 ⟨i,σ3,H3,I3,st3,fr3,w3⟩
  show wpAny _ X.A ((compTurn (.ListComp elt gens scope pos) d (.ref it) (.ref acc) X.env).onRaise (λx=>do noteFrame x X.env;theTreesLotGoes x)) _ _ s3
  refine wpAny_noted ?_
  rw[vU _ _ _ hgd hn]
  refine af (qp (af ?_))
  rcases turn i n σ3 H3 w3 with⟨stop,qn⟩ | ⟨go,N,hN,step⟩
  ·refine fz (T.done X rfl rfl rfl hc i pins s3 σ3 H3 (λ_ _=>False) I3 (stat fr3) st3 stop) (λr s4 ⟨hr,I4⟩=>?_) (λ_ _ z=>z.elim)
   subst hr
   exact aq ⟨.next,rfl,σ3,H3,I4,qn⟩
  ·refine fz (T.item X rfl rfl rfl hc i pins s3 σ3 H3 (λ_ _=>False) I3 (stat fr3) st3 go) (λr s4 ⟨u,hr,h4⟩=>?_) (λ_ _ z=>z.elim)
   subst hr
   refine af (fz h4 (λ_ s5 ⟨x,H5,I5,r5,y5,st5,fr5⟩=>?_) (λ_ _ z=>z.elim))
   have I5':=I5.pinned (stat fr5) (T.obj _ _ st5)
   refine af (fz (hg _ s5 σ3 H5 x u _ I5' r5 (step x H5 y5)) (λ_ s6 ⟨σ6,H6,I6,q6⟩=>?_) E0)
   refine af (fz (uN hts I6 q6) (λok s7 ⟨H7,I7,q7⟩=>?_) E0)
   have again:∀{σ7:St}{H7:Hp}{s7:Shared},Inv X (pins++sP fp s5.heap) σ7 H7 s7->N σ7 H7->∃m,m<n/\∃i σ' H',Inv X pins σ' H' s7/\tn i s7.heap/\(∀b∈fp,H' b=none)/\W i m σ' H':=λ{σ7 H7 s7} I7 n7=>by
    obtain⟨m',hm,w7⟩:=hN σ7 H7 n7
    refine⟨m',hm,i+1,σ7,H7,I7.unpinned,T.keep _ _ _ st5 λb hb o e=>(I7.pin (b,o) (dk _ (dk _ (gT hb e)))).1,λb hb=>?_,w7⟩
    obtain⟨o,e,d⟩:=T.obj _ _ st5 b hb
    exact(I7.pin (b,o) (dk _ (dk _ (gT hb e)))).2.1
   cases ok with
   |false=>
    rw[if_neg bh] at q7 ⊢
    exact aq ⟨rfl,again I7 q7⟩
   |true=>
    rw[if_pos rfl] at q7 ⊢
    exact hb _ s7 σ6 H7 _ _ _ _ I7 q7 λs8 σ8 H8 I8 q8=>aq ⟨rfl,again I8 q8⟩
 refine codeAny_of_tree ?_
 show wpAny _ _ ((compStart (.ListComp elt gens scope pos) d (.ref it) (.ref acc) X.env).onRaise (λx=>do noteFrame x X.env;Az theWindowsPlace)) _ _ s
 refine wpAny_notedAt ?_
 have hcl:clausesOf (.ListComp elt gens scope pos)=gens:=rfl
 unfold compStart
 rw[hcl,hgd]
 show wpAny _ _ (ask >>= _) _ _ s
 refine af (wpAny_askSetting (wpAny_ite ?_))
 split
 ·first
   |exact af (aq (aq (And.intro rfl loop)))
   |exact aq (And.intro rfl loop)
 ·refine af (tf ?_)
  show wpAny _ _ (Az iter.pos >>= _) _ _ s
  exact af (qp (af (T.self X.A 0 s _ _ st (aq (And.intro rfl loop)))))
theorem rK {elt target iter:Expr}{ifs:List Expr}{gens:List Comprehension}{scope:Scope}{pos:Pos}{d:Nat}{acc:Addr}{wi:TI}{g:TG}{ts:List TT}{tb:TS}
  (hx:X.xe=λ_ _=>False) (hc:X.calm=true) (hgd:gens[d+1]?=some ⟨target,iter,ifs,0⟩) (hn:∀g',gens[d+2]?=some g'->g'.is_async=0)
  (hi:PI X target iter wi) (hg:PG X target g) (hts:PTs X ifs ts) (hb:PB X elt gens scope pos (d+1) acc tb) (hs:∀x,oz iter X.env x=pure x:=by intro _;rfl) :
  PB X elt gens scope pos d acc (iQ wi g (fV ts tb)):=by
 intro pins s σ H D k Q E I h hk
 unfold uG
 rw[hgd]
 have EX:∀(e:Value) (s':Shared),X.xe e s'->E e s':=λe s' z=>by rw[hx] at z;exact z.elim
 refine af (fz (hi pins s σ H (λJ H1=>eK J g (fV ts tb) D σ H1) I h) (λv s1 h1=>?_) EX)
 refine af (qp (af (ye (hs v) (af (ef (fz h1 (λitv s2 h2=>?_) EX))))))
 obtain⟨it,fp,tn,J,H2,e,I2,T,st2,f2,q2⟩:=h2
 subst e
 refine af (wpAny_runOwn (qg (tW hx hc hgd hn hg hts hb T I2 st2 f2 q2) λr s3 ⟨f,hr,σ3,H3,I3,q3⟩=>?_))
 subst hr
 exact hk s3 σ3 H3 I3 q3
end
def eC (cells:List (Str×Addr)):List (Str×NameKind)->List (Str×Addr)->List (Str×Addr)
 |[],acc=>acc
 | (n,k) :: r,acc=>if k == .free then eC cells r ((n,(cells.lookup n).getD 0) :: acc) else eC cells r acc
theorem oK {scope:Scope}{env:Env}(h:∀x∈scope.names,x.2 = .free->(env.cells.lookup x.1).isSome=true):closureFor scope env=pure (eC env.cells scope.names []):=by
 have go:∀(names:List (Str×NameKind)) (acc:List (Str×Addr)),(∀x∈names,x.2 = .free->(env.cells.lookup x.1).isSome=true) ->
   (forIn names acc λx (r:List (Str×Addr))=>if x.2 == NameKind.free then(do let c <- cellOf env x.1;pure (ForInStep.yield ((x.1,c) :: r))) else pure (ForInStep.yield r):Sem (List (Str×Addr)))=pure (eC env.cells names acc):=by
  intro names
  induction names with
  |nil=>intro acc _;rw[j9];rfl
  |cons x r ih=>
   intro acc hh
   obtain⟨n,k⟩:=x
   rw[i9]
   unfold eC
   cases hk:k == NameKind.free with
   |false=>
    rw[if_neg bh,if_neg bh]
    exact ih acc λy hy=>hh y (ar _ hy)
   |true=>
    rw[if_pos rfl,if_pos rfl]
    obtain⟨c,hc⟩:=f6.mp (hh (n,k) b7 (by simpa using hk))
    have e:cellOf env n=pure c:=by
     unfold cellOf
     rw[show env.cells.lookup n=some c from hc]
    show(do let x <- (do let c <- cellOf env n;pure (ForInStep.yield ((n,c) :: acc)));_)=_
    rw[e]
    rw[show((env.cells.lookup n).getD 0)=c by rw[show env.cells.lookup n=some c from hc];rfl]
    exact ih ((n,c) :: acc) λy hy=>hh y (ar _ hy)
 have:=go scope.names [] h
 unfold closureFor
 refine Eq.trans ?_ (congrArg (λm=>m >>= λr=>pure r) this |>.trans rfl)
 rfl
theorem nC {cells:List (Str×Addr)}{x:Str}:∀(names:List (Str×NameKind)) (acc:List (Str×Addr)),(x,NameKind.free)∉names->(eC cells names acc).lookup x=acc.lookup x
 |[],_,_=>rfl
 | (n,k) :: r,acc,h=>by
  unfold eC
  have hr:(x,NameKind.free)∉r:=λz=>h (ar _ z)
  cases hk:k == NameKind.free with
  |false=>rw[if_neg bh];exact nC r acc hr
  |true=>
   rw[if_pos rfl,nC r _ hr,gq]
   have e:k = .free:=by simpa using hk
   have ne:(x == n)=false:=by
    cases q:x == n with
    |false=>rfl
    |true=>exact absurd (by rw[beq_iff_eq.mp q,e];exact b7) h
   rw[ne]
theorem mE {cells:List (Str×Addr)}{x:Str}{c:Addr}(hc:cells.lookup x=some c):∀(names:List (Str×NameKind)) (acc:List (Str×Addr)),(x,NameKind.free)∈names->(eC cells names acc).lookup x=some c
 |[],_,h=>by simp at h
 | (n,k) :: r,acc,h=>by
  unfold eC
  by_cases hr:(x,NameKind.free)∈r
  ·cases hk:k == NameKind.free with
   |false=>rw[if_neg bh];exact mE hc r acc hr
   |true=>rw[if_pos rfl];exact mE hc r _ hr
  ·rcases b6.mp h with e | e
   ·cases e
    rw[if_pos (by decide),nC r _ hr,gq]
    simp[hc]
   ·exact absurd e hr
theorem kM {cells:List (Str×Addr)}{x:Str}{c:Addr}:∀(names:List (Str×NameKind)) (acc:List (Str×Addr)),(∀y∈names,y.2 = .free->(cells.lookup y.1).isSome=true)->(x,c)∈eC cells names acc ->
  (x,c)∈acc\/((x,NameKind.free)∈names/\cells.lookup x=some c)
 |[],_,_,h => .inl h
 | (n,k) :: r,acc,hh,h=>by
  unfold eC at h
  have hr:∀y∈r,y.2 = .free->(cells.lookup y.1).isSome=true:=λy hy=>hh y (ar _ hy)
  cases hk:k == NameKind.free with
  |false=>
   rw[hk,if_neg bh] at h
   exact(kM r acc hr h).imp id λz=>⟨ar _ z.1,z.2⟩
  |true=>
   rw[hk,if_pos rfl] at h
   have ek:k = .free:=by simpa using hk
   rcases kM r _ hr h with z | z
   ·rcases b6.mp z with z | z
    ·cases z
     obtain⟨d,hd⟩:=f6.mp (hh (x,k) b7 ek)
     exact .inr ⟨by rw[ek];exact b7,by rw[hd];rfl⟩
    ·exact .inl z
   ·exact .inr ⟨ar _ z.1,z.2⟩
theorem iM {cells:List (Str×Addr)}(inj:∀x y c,cells.lookup x=some c->cells.lookup y=some c->x=y):∀(names:List (Str×NameKind)) (acc:List (Str×Addr)),(names.map (·.1)).Nodup ->
  (∀y∈names,y.2 = .free->(cells.lookup y.1).isSome=true)->(∀p∈acc,cells.lookup p.1=some p.2/\p.1∉names.map (·.1))->(acc.Pairwise λx y=>x.2≠y.2)->(eC cells names acc).Pairwise λx y=>x.2≠y.2
 |[],_,_,_,_,h=>h
 | (n,k) :: r,acc,nd,hh,ha,h=>by
  unfold eC
  have hr:∀y∈r,y.2 = .free->(cells.lookup y.1).isSome=true:=λy hy=>hh y (ar _ hy)
  obtain⟨n1,n2⟩:=de.mp nd
  cases hk:k == NameKind.free with
  |false=>
   rw[if_neg bh]
   exact iM inj r acc n2 hr (λp hp=>⟨(ha p hp).1,λz=>(ha p hp).2 (ar _ z)⟩) h
  |true=>
   rw[if_pos rfl]
   have ek:k = .free:=by simpa using hk
   obtain⟨d,hd⟩:=f6.mp (hh (n,k) b7 ek)
   have hd':cells.lookup n=some d:=hd
   refine iM inj r _ n2 hr (λp hp=>?_) (jm.mpr ⟨λp hp e=>?_,h⟩)
   ·rcases b6.mp hp with e | hp
    ·subst e;exact⟨by rw[hd'];rfl,n1⟩
    ·exact⟨(ha p hp).1,λz=>(ha p hp).2 (ar _ z)⟩
   ·rw[hd'] at e
    have e':d=p.2:=e
    have:n=p.1:=inj n p.1 d hd' (by rw[e'];exact(ha p hp).1)
    exact(ha p hp).2 (by rw[<- this];exact b7)
theorem eU {x:Str}{c:Addr}:∀(names:List (Str×NameKind)) (n:Nat) (acc:List (Str×Addr)),(x,c)∈j5 n names acc->(n<=c/\(x,NameKind.cell)∈names)\/(x,c)∈acc
 |[],_,_,h => .inr h
 | (y,k) :: r,n,acc,h=>by
  unfold j5 at h
  cases hk:k == NameKind.cell with
  |false=>
   rw[hk,if_neg bh] at h
   exact(eU r n acc h).imp (λz=>⟨z.1,ar _ z.2⟩) id
  |true=>
   rw[hk,if_pos rfl] at h
   have ek:k = .cell:=by simpa using hk
   rcases eU r (n+1) _ h with z | z
   ·exact .inl ⟨by omega,ar _ z.2⟩
   ·rcases b6.mp z with z | z
    ·cases z
     exact .inl ⟨ay _,by rw[ek];exact b7⟩
    ·exact .inr z
theorem eB:∀(names:List (Str×NameKind)) (n:Nat) (acc:List (Str×Addr)),(∀p∈acc,p.2<n)->(acc.Pairwise λx y=>x.2≠y.2)->(j5 n names acc).Pairwise λx y=>x.2≠y.2
 |[],_,_,_,h=>h
 | (y,k) :: r,n,acc,hl,h=>by
  unfold j5
  cases hk:k == NameKind.cell with
  |false=>rw[if_neg bh];exact eB r n acc hl h
  |true=>
   rw[if_pos rfl]
   refine eB r (n+1) _ (λp hp=>?_) (jm.mpr ⟨λp hp e=>?_,h⟩)
   ·rcases b6.mp hp with e | hp
    ·subst e;exact nr _
    ·exact tu (hl p hp)
   ·have e':n=p.2:=e
    exact j7 _ (e' ▸ hl p hp)
theorem fI {x:Str}:∀(names:List (Str×NameKind)) (n:Nat) (acc:List (Str×Addr)),(x,NameKind.cell)∉names->(j5 n names acc).lookup x=acc.lookup x
 |[],_,_,_=>rfl
 | (y,k) :: r,n,acc,h=>by
  unfold j5
  have hr:(x,NameKind.cell)∉r:=λz=>h (ar _ z)
  cases hk:k == NameKind.cell with
  |false=>rw[if_neg bh];exact fI r n acc hr
  |true=>
   rw[if_pos rfl,fI r _ _ hr,gq]
   have e:k = .cell:=by simpa using hk
   have ne:(x == y)=false:=by
    cases q:x == y with
    |false=>rfl
    |true=>exact absurd (by rw[beq_iff_eq.mp q,e];exact b7) h
   rw[ne]
theorem dZ {x:Str}{c:Addr}:∀(names:List (Str×NameKind)) (h:Heap) (acc:List (Str×Addr)),(x,c)∈j5 h.objs.size names acc->(x,c)∈acc\/(Bv h names).IsCell c none
 |[],_,_,hm => .inl hm
 | (y,k) :: r,h,acc,hm=>by
  unfold j5 at hm
  unfold Bv
  cases hk:k == NameKind.cell with
  |false=>
   rw[hk,if_neg bh] at hm
   rw[if_neg bh]
   exact dZ r h acc hm
  |true=>
   rw[hk,if_pos rfl] at hm
   rw[if_pos rfl]
   have:=dZ (x:=x) (c:=c) r (h.push { cls := .type "cell",data := .cell none }) ((y,h.objs.size) :: acc) (by rw[ji];exact hm)
   rcases this with z | z
   ·rcases b6.mp z with z | z
    ·cases z
     exact .inr ⟨_,zm r _ _ _ (bg _ rfl),rfl⟩
    ·exact .inl z
   ·exact .inr z
theorem cS {x:Str}{k:NameKind}:∀{names:List (Str×NameKind)},(names.map (·.1)).Nodup->(x,k)∈names->names.lookup x=some k
 |[],_,h=>by simp at h
 | (y,j) :: r,nd,h=>by
  obtain⟨n1,n2⟩:=de.mp nd
  rw[gq]
  rcases b6.mp h with e | e
  ·cases e;simp
  ·have ne:(x == y)=false:=by
    cases q:x == y with
    |false=>rfl
    |true=>exact absurd (bj.mpr ⟨(x,k),e,beq_iff_eq.mp q⟩) n1
   rw[ne]
   exact cS n2 e
theorem jC {scope:Scope}{env:Env}{x:Str}{k:NameKind}:(A8 scope env).names.lookup x=some k->(k = .cell\/k = .free)->scope.names.lookup x=some .cell\/scope.names.lookup x=some .free:=by
 unfold A8
 show(scope.names.map _).lookup x=some k->_
 induction scope.names with
 |nil=>intro h;simp at h
 |cons p r ih=>
  obtain⟨n,j⟩:=p
  intro h hk
  rw[b8] at h
  rw[gq]
  by_cases hc:(j == NameKind.free && env.scope.kind == .function && env.kindOf n == some .cell)=true
  ·simp only[hc,if_true] at h
   rw[gq] at h
   cases q:x == n with
   |true=>
    have:j = .free:=by
     have:=(uo.mp (uo.mp hc).1).1
     simpa using this
    simp[this]
   |false=>rw[q] at h;simpa using ih h hk
  ·simp only[hc,dq,if_false] at h
   rw[gq] at h
   cases q:x == n with
   |true=>
    rw[q] at h
    simp only[t4] at h
    subst h
    rcases hk with e | e <;> simp[e]
   |false=>rw[q] at h;simpa using ih h hk
theorem uE {scope:Scope}{env:Env}{x:Str}(hf:env.scope.kind = .function):scope.names.lookup x=some .free->(A8 scope env).names.lookup x=some .cell\/(A8 scope env).names.lookup x=some .free:=by
 unfold A8
 show _->(scope.names.map _).lookup x=_\/(scope.names.map _).lookup x=_
 induction scope.names with
 |nil=>intro h;simp at h
 |cons p r ih=>
  obtain⟨n,j⟩:=p
  intro h
  rw[gq] at h
  rw[b8]
  cases q:x == n with
  |true=>
   rw[q] at h
   simp only[t4] at h
   subst h
   by_cases hc:(NameKind.free == NameKind.free && env.scope.kind == .function && env.kindOf n == some .cell)=true
   ·left;simp only[hc,if_true];rw[gq,q]
   ·right;simp only[hc,dq,if_false];rw[gq,q]
  |false=>
   rw[q] at h
   by_cases hc:(j == NameKind.free && env.scope.kind == .function && env.kindOf n == some .cell)=true
   ·simp only[hc,if_true];rw[gq,q];exact ih h
   ·simp only[hc,dq,if_false];rw[gq,q];exact ih h
def eO (X:Cx) (N:List Str) (scope:Scope) (s:Shared) (H:Hp) (fp:List Addr):Cx where
 prog:=X.prog
 w:=X.w
 K:=X.K
 mg:=X.mg
 base:=X.base
 A:=X.A
 N:=N
 s₀:=s
 H₀:=H
 env:=compEnvC scope (j5 (s.heap.objs.size+1) scope.names (eC X.env.cells scope.names [])) s.heap.objs.size X.env
 outer:=X.stack
 stack:=X.stack
 ex:=fp
 fn:=λx=>scope.names.lookup x == some .cell
 calm:=X.calm
 pn:=[]
 xe:=λ_ _=>False
def aJb (σ:St):Option Nat->Option V
 |none=>none
 |some j=>(σ[j]?).join
def iY (N:List Str) (names encl:List (Str×NameKind)) (N':List Str) (ix:List (Option Nat)):Bool:=
 decide ((names.map (·.1)).Nodup) && names.all (λp=>!(p.2 == NameKind.free) || (encl.lookup p.1 == some NameKind.cell || encl.lookup p.1 == some NameKind.free)) && ix.length == N'.length &&
  ((N'.zip ix).all λp=>match p.2 with
   |none=>true
   |some j=>N[j]? == some p.1 && names.lookup p.1 == some NameKind.free)
def cU (ix:List (Option Nat)) (wi:TI) (g:TG) (ts:List TT) (tb:Addr->TS):TE:=λσ H Q=>wi σ H λJ H1=>∀acc,H1 acc=none ->
 eK J g (fV ts (tb acc)) { nx:=λ_ H'=>Q (.ref acc) H',rt:=λ_ _=>False } (ix.map (aJb σ)) (upd H1 acc (.lst []))
section
variable {X:Cx}{elt target iter:Expr}{ifs:List Expr}{rest:List Comprehension}{scope:Scope}{pos:Pos}{N':List Str}{ix:List (Option Nat)}{wi:TI}{g:TG}{ts:List TT}{tb:Addr->TS}
theorem zQ {pins:List (Addr×Obj)}{σ:St}{H:Hp}{s:Shared}{fp:List Addr}{Q:Env->Shared->Prop}{E:Value->Shared->Prop}(I:Inv X pins σ H s)(hok:iY X.N scope.names X.env.scope.names N' ix=true)(hk:scope.kind = .function)
  (hf:∀b∈fp,sY X pins H b) (hfo:∀b∈fp,∃o,s.heap.get? b=some o)
  (h:∀s',(∀b o,s.heap.get? b=some o->s'.heap.get? b=some o)->Inv (eO X N' scope s H fp) [] (ix.map (aJb σ)) H s'->Q (newEnv scope s.heap.objs.size X.env.globals (j5 (s.heap.objs.size+1) scope.names (eC X.env.cells scope.names [])) X.env.qual none .none (some X.env) A4) s') :
  wpAny (model X.prog X.w) X.A (As scope X.env.globals (eC X.env.cells scope.names []) [] X.env.qual none .none (some X.env)) Q E s:=by
 have hok2:=hok
 simp only[iY,dv,decide_eq_true_eq,ja] at hok
 obtain⟨⟨⟨nd,hfr⟩,hlen⟩,hix⟩:=hok
 have hlen:ix.length=N'.length:=by simpa using hlen
 have isF:∀y∈scope.names,y.2 = .free->X.env.kindOf y.1=some .cell\/X.env.kindOf y.1=some .free:=λy hy e=>by
  have:=hfr y hy
  have:X.env.scope.names.lookup y.1=some .cell\/X.env.scope.names.lookup y.1=some .free:=by simpa[e] using this
  exact this
 have hasC:∀y∈scope.names,y.2 = .free->(X.env.cells.lookup y.1).isSome=true:=λy hy e=>by
  obtain⟨c,hc⟩:=I.ok.has y.1 (isF y hy e)
  rw[hc];rfl
 have oldC:∀x c,(x,c)∈eC X.env.cells scope.names []->(x,NameKind.free)∈scope.names/\X.env.cells.lookup x=some c:=λx c hm=>(kM _ _ hasC hm).resolve_left (by simp)
 have ltC:∀x c,X.env.cells.lookup x=some c->c<s.heap.objs.size:=λx c e=>by obtain⟨v,q⟩:=I.cell x c e;exact q.lt
 have apart:(j5 (s.heap.objs.size+1) scope.names (eC X.env.cells scope.names [])).Pairwise λx y=>x.2≠y.2:=
  eB _ _ _ (λp hp=>tu (ltC p.1 p.2 (oldC p.1 p.2 hp).2)) (iM I.ok.inj _ _ nd hasC (by simp) List.Pairwise.nil)
 have fromC:∀x c,(j5 (s.heap.objs.size+1) scope.names (eC X.env.cells scope.names [])).lookup x=some c->(s.heap.objs.size+1<=c/\(x,NameKind.cell)∈scope.names)\/((x,NameKind.free)∈scope.names/\X.env.cells.lookup x=some c):=λx c e=>
  (eU _ _ _ (fk e)).imp id λz=>oldC x c z
 have sz1:(s.heap.push { cls := .type "dict",data := .dict #[] }).objs.size=s.heap.objs.size+1:=ji ..
 simp only[As,Option.isSome_some,if_true]
 refine af (wpAny_alloc ?_)
 refine af (wpAny_layCells _ (λname kind cells=>by cases hkc:kind == NameKind.cell <;> simp[hkc]) _ _ _ _ ?_)
 rw[show({ s with heap:=s.heap.push { cls := .type "dict",data := .dict #[] } }:Shared).heap.objs.size=s.heap.objs.size+1 from sz1]
 refine af ?_
 rw[j9]
 refine aq (aq ?_)
 have keep:∀b o,s.heap.get? b=some o->(Bv (s.heap.push { cls := .type "dict",data := .dict #[] }) scope.names).get? b=some o:=λb o e=>zm _ _ b o (ak _ e)
 refine h _ keep ?_
 have kk:∀x:Str,(eO X N' scope s H fp).env.kindOf x=(A8 scope X.env).names.lookup x:=λ_=>rfl
 have emptyC:∀x c,(j5 (s.heap.objs.size+1) scope.names (eC X.env.cells scope.names [])).lookup x=some c->∃v,(Bv (s.heap.push { cls := .type "dict",data := .dict #[] }) scope.names).IsCell c v:=λx c e=>by
  have:=dZ (x:=x) (c:=c) scope.names (s.heap.push { cls := .type "dict",data := .dict #[] }) (eC X.env.cells scope.names []) (by rw[sz1];exact fk e)
  rcases this with z | z
  ·obtain⟨v,q⟩:=I.cell x c (oldC x c z).2
   exact⟨v,q.keeps keep⟩
  ·exact⟨none,z⟩
 refine⟨⟨I.ok.mod,hk,I.ok.glob,I.ok.blt,ay _,λy z c h1 h2=>?_,λy hy=>?_,λy c hy e=>?_,I.ok.hd,I.ok.frames, .inl rfl,λb hb=>⟨?_,λx c e=>?_⟩,I.bs,cg I.ok.bsz I.sz,λb o e hb=>?_,λb hb hs=>?_,I.stack,I.stkFree⟩,
  rfl,I.bare,Un.kept keep,⟨λ_=>none,(Heap.Ns.new s.heap (.type "dict")).keeps (zm _ _),λi x v e1 e2 e3=>?_⟩,emptyC,I.hok.fresh (ay _),λy c e=>?_,λp hp=>absurd (show p∈([]:List (Addr×Obj)) from hp) (by simp),I.hok.kept keep,by rw[ai];exact hlen⟩
 ·exact name_of_addr apart (fk h1) (fk h2)
 ·rw[kk] at hy
  have hy':scope.names.lookup y=some .cell\/scope.names.lookup y=some .free:=by
   rcases hy with q | q
   ·exact jC q (.inl rfl)
   ·exact jC q (.inr rfl)
  refine f6.mp (r9 _ _ _ ?_)
  rcases hy' with q | q
  ·exact .inl q
  ·have hm:=fk q
   obtain⟨c,hc⟩:=f6.mp (hasC _ hm rfl)
   exact .inr (by rw[mE hc _ _ hm];rfl)
 ·have hy:scope.names.lookup y=some .cell:=by simpa using(show(scope.names.lookup y == some NameKind.cell)=true from hy)
  rcases fromC y c e with z | z
  ·exact xl z.1
  ·have:=cS nd z.1
   rw[hy] at this;cases this
 ·obtain⟨o,ho⟩:=hfo b hb
  exact df (br ho)
 ·rcases fromC x c e with z | z
  ·obtain⟨o,ho⟩:=hfo b hb
   exact wc (cy (br ho) (xl z.1))
  ·exact(hf b hb).2.2.2.2.1 x c z.2
 ·rcases(hf b hb).2.2.2.1 with z | z
  ·exact I.ok.noex b o e z
  ·exact absurd (cy (br (I.ok.bs b o e).1) z) (j7 _)
 ·rcases b6.mp (I.stkSub b hs) with z | z
  ·exact(hf b hb).2.1 z
  ·exact(hf b hb).2.2.1 z
 ·rw[az] at e2
  cases hj:ix[i]? with
  |none=>rw[hj] at e2;cases e2
  |some oj=>
   rw[hj] at e2
   have e2:aJb σ oj=some v:=by simpa using e2
   cases oj with
   |none=>cases e2
   |some j=>
    have hv:σ[j]?=some (some v):=by
     have e2':(σ[j]?).join=some v:=e2
     cases q:σ[j]? with
     |none=>rw[q] at e2';cases e2'
     |some w=>rw[q] at e2';have:w=some v:=e2';rw[this]
    have hz:(x,some j)∈N'.zip ix:=by
     refine cb (i:=i) ?_
     rw[List.getElem?_zip_eq_some]
     exact⟨e1,hj⟩
    have:=hix _ hz
    simp only[dv,beq_iff_eq] at this
    obtain⟨n1,n2⟩:=this
    have hm:=fk n2
    obtain⟨m,hn,hl⟩:=I.loc
    have kf:=isF (x, .free) hm rfl
    have vis:Vis X.env.scope x:=by
     rcases kf with q | q
     ·exact .inr (.inl q)
     ·exact .inr (.inr q)
    obtain⟨u,r,l⟩:=hl j x v n1 hv vis
    refine⟨u,r, .inr ?_⟩
    rcases l with⟨k1,_⟩ | ⟨_,c,hc,hcell⟩
    ·rcases kf with q | q <;> (rw[show X.env.kindOf x=some NameKind.local from k1] at q;cases q)
    ·refine⟨?_,c,?_,hcell.keeps keep⟩
     ·rw[kk];exact uE I.ok.kind n2
     ·show(j5 _ _ _).lookup x=some c
      rw[fI,mE hc _ _ hm]
      intro z
      have:=cS nd z
      rw[n2] at this;cases this
 ·rcases fromC y c e with z | z
  ·exact I.hok.fresh (xl z.1)
  ·exact I.freeC y c z.2
theorem pU {pins:List (Addr×Obj)}{σ:St}{H:Hp}{s:Shared}{it:Addr}{fp:List Addr}{tn:Nat->Heap->Prop}{J:It}{RR:Value->Addr->Bs->Shared->Prop}{E:Value->Shared->Prop}{D:Addr->hU}
  (hc:X.calm=true) (hok:iY X.N scope.names X.env.scope.names N' ix=true) (hk:scope.kind = .function) (hn:∀g',rest[0]?=some g'->g'.is_async=0)
  (hg:∀s H fp,PG (eO X N' scope s H fp) target g) (hts:∀s H fp,PTs (eO X N' scope s H fp) ifs ts)
  (hb:∀s H fp acc,PB (eO X N' scope s H fp) elt (⟨target,iter,ifs,0⟩ :: rest) scope pos 0 acc (tb acc))
  (I:Inv X pins σ H s) (T:aDc X.prog X.w X.K target J fp it tn) (st:tn 0 s.heap) (hf:∀b∈fp,sY X pins H b)
  (h:∀acc,H acc=none->eK J g (fV ts (tb acc)) (D acc) (ix.map (aJb σ)) (upd H acc (.lst [])))
  (hR:∀acc C s' H' σ',H acc=none->s.heap.objs.size<=C->Inv X pins σ H' s'->sY X pins H' C->(∃m,s'.heap.Ns C m)->(D acc).nx σ' H'->RR (.ref acc) C (.ok .next) s') :
  wpAny (model X.prog X.w) X.A (newList []) (λacc s₃=>wpAny (model X.prog X.w) X.A (As scope X.env.globals (eC X.env.cells scope.names []) [] X.env.qual none .none (some X.env)) (λcenv s₄=>
   vg (model X.prog X.w) X.A (.compStart (.ListComp elt (⟨target,iter,ifs,0⟩ :: rest) scope pos) 0 (.ref it) acc { cenv with scope:=A8 scope X.env }) (λr s'=>∃f,r = .ok f/\RR acc cenv.locals (.ok .next) s') s₄) E s₃) E s:=by
 refine fb ?_
 have hnone:H s.heap.objs.size=none:=I.hok.fresh (ay _)
 have I3:Inv X pins σ (upd H s.heap.objs.size (.lst [])) { s with heap:=s.heap.push { cls := .type "list",data := .seq ([]:List Value).toArray } }:=
  I.laid (t':=s.toks) (λb u e=>ak _ e) (ay _) ⟨bc _,[],0, .nil,bg _ rfl⟩
 have hlt:∀b∈fp,b<s.heap.objs.size:=λb hb=>by obtain⟨o,ho,_⟩:=T.obj 0 _ st b hb;exact br ho
 have hf3:∀b∈fp,sY X pins (upd H s.heap.objs.size (.lst [])) b:=λb hb=>⟨by rw[aL (df (hlt b hb))];exact(hf b hb).1,(hf b hb).2⟩
 refine zQ (fp:=fp) I3 hok hk hf3 (λb hb=>?_) λs4 keep I4=>?_
 ·obtain⟨o,ho,_⟩:=T.obj 0 _ st b hb
  exact⟨o,ak _ ho⟩
 have st4:tn 0 s4.heap:=T.keep 0 _ _ st λb hb o e=>keep b o (ak _ e)
 have size3:({ s with heap:=s.heap.push { cls := .type "list",data := .seq ([]:List Value).toArray } }:Shared).heap.objs.size=s.heap.objs.size+1:=ji ..
 have hf4:∀b∈fp,sY (eO X N' scope { s with heap:=s.heap.push { cls := .type "list",data := .seq ([]:List Value).toArray } } (upd H s.heap.objs.size (.lst [])) fp) [] (upd H s.heap.objs.size (.lst [])) b:=λb hb=>
  ⟨(hf3 b hb).1,(I4.ok.exf b hb).1,I4.ok.exfs b hb, .inl hb,(I4.ok.exf b hb).2,λp hp=>absurd (show p∈([]:List (Addr×Obj)) from hp) (by simp)⟩
 refine qg (tW (X:=eO X N' scope { s with heap:=s.heap.push { cls := .type "list",data := .seq ([]:List Value).toArray } } (upd H s.heap.objs.size (.lst [])) fp) rfl hc (d:=0) (gens:=⟨target,iter,ifs,0⟩ :: rest) rfl hn (hg _ _ _) (hts _ _ _) (hb _ _ _ _) T I4 st4 hf4 (h _ hnone)) λr s5 ⟨f,hr,σ5,H5,I5,q5⟩=>⟨f,hr,?_⟩
 have I6:Inv X pins σ H5 s5:=I3.call' (ch:=fp) (I5.os.trans rfl) I5.base I5.hok I5.bare λb hb=>⟨(hf3 b hb).2.2.2.1,(hf3 b hb).2.1,(hf3 b hb).2.2.2.2.1,(hf3 b hb).2.2.2.2.2⟩
 have hC:s.heap.objs.size<=(eO X N' scope { s with heap:=s.heap.push { cls := .type "list",data := .seq ([]:List Value).toArray } } (upd H s.heap.objs.size (.lst [])) fp).env.locals:=by
  show s.heap.objs.size<=_
  exact cg (om _) (Nat.le_of_eq size3.symm)
 refine hR _ _ s5 H5 σ5 hnone hC I6 (I3.fpOk (ay _) I5.free) ?_ q5
 obtain⟨m,hm,_⟩:=I5.loc
 exact⟨m,hm⟩
theorem lJ (hok:iY X.N scope.names X.env.scope.names N' ix=true):∀x∈scope.names,x.2 = .local->scope.names.lookup x.1=some .local:=by
 simp only[iY,dv,decide_eq_true_eq,ja] at hok
 intro x hx e
 obtain⟨n,k⟩:=x
 have e:k = .local:=e
 subst e
 exact cS hok.1.1.1 hx
theorem nK {pins:List (Addr×Obj)}{σ:St}{H:Hp}{s:Shared}(I:Inv X pins σ H s)(hok:iY X.N scope.names X.env.scope.names N' ix=true):closureFor scope X.env=pure (eC X.env.cells scope.names []):=by
 refine oK λy hy e=>?_
 simp only[iY,dv,decide_eq_true_eq,ja] at hok
 have:=hok.1.1.2 y hy
 have:X.env.scope.names.lookup y.1=some .cell\/X.env.scope.names.lookup y.1=some .free:=by simpa[e] using this
 obtain⟨c,hc⟩:=I.ok.has y.1 this
 rw[hc];rfl
theorem cR (hok:iY X.N scope.names X.env.scope.names N' ix=true)(hk:scope.kind = .function)(hc:X.calm=true)(hi:PI X target iter wi)
  (hg:∀s H fp,PG (eO X N' scope s H fp) target g) (hts:∀s H fp,PTs (eO X N' scope s H fp) ifs ts)
  (hb:∀s H fp acc,PB (eO X N' scope s H fp) elt (⟨target,iter,ifs,0⟩ :: rest) scope pos 0 acc (tb acc))
  (hn:∀g',rest[0]?=some g'->g'.is_async=0:=by intro _ h;first | cases h;rfl | cases h) (hs:∀x,oz iter X.env x=pure x:=by intro _;rfl) :
  PE X (.ListComp elt (⟨target,iter,ifs,0⟩ :: rest) scope pos) (cU ix wi g ts tb):=by
 intro pins s σ H Q I h
 rw[eval_ListComp]
 refine xm (use:=none) rfl hs (nK I hok) hk (lJ hok) (thn (hi pins s σ H _ I h) λxv s₁ h₁=>thn h₁ λitv s₂ h₂=>?_)
 obtain⟨it,fp,tn,J,H2,e,I2,T,st2,f2,q2⟩:=h₂
 subst e
 refine thn (pU (RR:=λacc C r s'=>compPost (model X.prog X.w) X.A X.xe none (EP X pins σ Q) acc C r s') hc hok hk hn hg hts hb I2 T st2 f2 q2 λacc C s' H' σ' ha hC I' fC hns q=>?_) λacc s3 h3=>thn h3 λcenv s4 h4=>qg h4 λr s5 ⟨f,hr,h5⟩=>?_
 ·obtain⟨m,hm⟩:=hns
  refine⟨m,hm,λh' hs'=>⟨.ref acc,H',I'.turned (t':=s'.toks) (λb o hb e=>(hs'.2 b hb).trans e) fC.1 fC.2.1 fC.2.2.2.1 fC.2.2.2.2.1 fC.2.2.2.2.2,rfl,q⟩⟩
 ·subst hr
  exact h5
theorem dF {i:Nat}{x:Str}{pos' spos:Pos}(hN:X.N.Nodup)(hix:X.N[i]?=some x)(hx:Loc X.env.scope x)(hok:iY X.N scope.names X.env.scope.names N' ix=true)(hk:scope.kind = .function)(hc:X.calm=true)(hi:PI X target iter wi)
  (hg:∀s H fp,PG (eO X N' scope s H fp) target g) (hts:∀s H fp,PTs (eO X N' scope s H fp) ifs ts)
  (hb:∀s H fp acc,PB (eO X N' scope s H fp) elt (⟨target,iter,ifs,0⟩ :: rest) scope pos 0 acc (tb acc))
  (hsw:AR (.ListComp elt (⟨target,iter,ifs,0⟩ :: rest) scope pos) (some (.Name x pos')) spos.line X.env=pure true:=by rfl)
  (hf:X.fn x=true\/X.env.scope.names.lookup x=some .local:=by first | exact .inl rfl | exact .inr rfl | assumption)
  (hn:∀g',rest[0]?=some g'->g'.is_async=0:=by intro _ h;first | cases h;rfl | cases h) (hs:∀x,oz iter X.env x=pure x:=by intro _;rfl) :
  PS X (.Assign [.Name x pos'] (.ListComp elt (⟨target,iter,ifs,0⟩ :: rest) scope pos) spos) (bU (cU ix wi g ts tb) (aI i)):=by
 intro pins s σ H D I h
 rw[exec_Assign_Name_used _ _ _ _ hsw]
 refine af (qp (af ?_))
 show wpAny _ X.A (do let _ <- comprehension (.ListComp elt (⟨target,iter,ifs,0⟩ :: rest) scope pos) scope X.env _ (newList []) false (eval iter X.env) (some (Bc (.Name x pos') X.env))) _ _ s
 refine af (fz (xm (use:=some (Bc (.Name x pos') X.env)) (Q:=λ_ s'=>SP X pins D .next s') rfl hs (nK I hok) hk (lJ hok) (thn (hi pins s σ H _ I h) λxv s₁ h₁=>thn h₁ λitv s₂ h₂=>?_)) (λ_ s' hq=>aq (aq hq)) λ_ _ e=>e)
 obtain⟨it,fp,tn,J,H2,e,I2,T,st2,f2,q2⟩:=h₂
 subst e
 refine thn (pU (RR:=λacc C r s'=>compPost (model X.prog X.w) X.A X.xe (some (Bc (.Name x pos') X.env)) (λ_ s'=>SP X pins D .next s') acc C r s') hc hok hk hn hg hts hb I2 T st2 f2 q2 λacc C s' H' σ' ha hC I' fC hns q=>?_) λacc s3 h3=>thn h3 λcenv s4 h4=>qg h4 λr s5 ⟨f,hr,h5⟩=>?_
 ·obtain⟨m,hm⟩:=hns
  show wpAny _ X.A (Bc (.Name x pos') X.env (.ref acc)) _ _ _
  refine wpAny_assign_Name (tG I' hN hix hx (v := .ref acc) rfl (λs6 I6 ⟨a,hsb,ha6⟩=>?_) hf)
  have hCa:C≠a:=by
   rcases ha6 with z | z
   ·rw[z];exact fC.2.1
   ·exact(fC.2.2.2.2.1 x a z).symm
  refine⟨m,hm.sameBut hsb hCa,λh' hs'=>⟨_,H',I6.turned (t':=s6.toks) (λb o hb e=>(hs'.2 b hb).trans e) fC.1 fC.2.1 fC.2.2.2.1 fC.2.2.2.2.1 fC.2.2.2.2.2,q⟩⟩
 ·subst hr
  exact h5
end
theorem Same.tup {K:aa}{H H':Hp}{a:Addr}{xs:List V}(e:Same H H')(h:SqT K H a xs):SqT K H' a xs:=by
 rcases h with(h | ⟨o,h⟩) | h
 ·exact .inl (.inl (e _ _ h))
 ·exact .inl (.inr ⟨o,e _ _ h⟩)
 ·exact .inr h
inductive Dt where
 |non | bl (b:Bool) | int (i:Int) | str (x:Str) | tup (ds:List Dt) | lst (ds:List Dt)
mutual
def Sh (K:aa) (H:Hp):Dt->V->Prop
 | .non,v=>v = .non
 | .bl b,v=>v = .bl b
 | .int i,v=>v = .int i
 | .str x,v=>v = .str x
 | .tup ds,v=>∃a xs,v = .ref a/\SqT K H a xs/\ShL K H ds xs
 | .lst ds,v=>∃a xs,v = .ref a/\SqL K H a xs/\ShL K H ds xs
def ShL (K:aa) (H:Hp):List Dt->List V->Prop
 |[],xs=>xs=[]
 |d :: ds,xs=>∃x r,xs=x :: r/\Sh K H d x/\ShL K H ds r
end
mutual
def eqD:Dt->Dt->Bool
 | .non, .non=>true
 | .bl a, .bl b=>a == b
 | .int a, .int b=>a == b
 | .str a, .str b=>a == b
 | .bl a, .int b=>(if a then 1 else 0) == b
 | .int a, .bl b=>a == (if b then 1 else 0)
 | .tup ds, .tup es=>eqL ds es
 | .lst ds, .lst es=>eqL ds es
 |_,_=>false
def eqL:List Dt->List Dt->Bool
 |[],[]=>true
 |d :: ds,e :: es=>eqD d e && eqL ds es
 |_,_=>false
end
mutual
def dep:Dt->Nat
 | .tup ds=>oI ds+1
 | .lst ds=>oI ds+1
 |_=>0
def oI:List Dt->Nat
 |[]=>0
 |d :: ds=>max (dep d) (oI ds)
end
section
variable {K:aa}{H H':Hp}
mutual
theorem Sh.same (e:Same H H'):∀{d:Dt}{v:V},Sh K H d v->Sh K H' d v
 | .non,_,h=>h
 | .bl _,_,h=>h
 | .int _,_,h=>h
 | .str _,_,h=>h
 | .tup ds,_,⟨a,xs,h1,h2,h3⟩=>⟨a,xs,h1,e.tup h2,ShL.same e h3⟩
 | .lst ds,_,⟨a,xs,h1,h2,h3⟩=>⟨a,xs,h1,e.seq h2,ShL.same e h3⟩
theorem ShL.same (e:Same H H'):∀{ds:List Dt}{xs:List V},ShL K H ds xs->ShL K H' ds xs
 |[],_,h=>h
 |d :: ds,_,⟨x,r,h1,h2,h3⟩=>⟨x,r,h1,Sh.same e h2,ShL.same e h3⟩
end
theorem ShL.length:∀{ds:List Dt}{xs:List V},ShL K H ds xs->ds.length=xs.length
 |[],_,h=>by rw[show _=[] from h];rfl
 |d :: ds,_,⟨x,r,h1,h2,h3⟩=>by rw[h1,bq,bq,ShL.length h3]
theorem ShL.get:∀{ds:List Dt}{xs:List V}{j:Nat}{d:Dt},ShL K H ds xs->ds[j]?=some d->∃x,xs[j]?=some x/\Sh K H d x
 |[],_,_,_,_,h=>by simp at h
 |d :: ds,_,0,e,⟨x,r,h1,h2,h3⟩,h=>by
  have:d=e:=by simpa using h
  subst this
  exact⟨x,by rw[h1];rfl,h2⟩
 |d :: ds,_,j+1,e,⟨x,r,h1,h2,h3⟩,h=>by
  obtain⟨y,h4,h5⟩:=ShL.get (j:=j) h3 (by simpa using h)
  exact⟨y,by rw[h1];simpa using h4,h5⟩
theorem ShL.ints:∀(ns:List Int),ShL K H (ns.map Dt.int) (ns.map V.int)
 |[]=>rfl
 |n :: ns=>⟨.int n,ns.map V.int,rfl,rfl,ShL.ints ns⟩
theorem ShL.of_ints:∀{ns:List Int}{xs:List V},ShL K H (ns.map Dt.int) xs->xs=ns.map V.int
 |[],_,h=>h
 |n :: ns,_,⟨x,r,h1,h2,h3⟩=>by rw[h1,ShL.of_ints h3,show x=V.int n from h2];rfl
end
mutual
theorem cL:∀d:Dt,eqD d d=true
 | .non=>by unfold eqD;rfl
 | .bl b=>by unfold eqD;simp
 | .int b=>by unfold eqD;simp
 | .str b=>by unfold eqD;simp
 | .tup ds=>by unfold eqD;exact gN ds
 | .lst ds=>by unfold eqD;exact gN ds
theorem gN:∀ds:List Dt,eqL ds ds=true
 |[]=>by unfold eqL;rfl
 |d :: ds=>by unfold eqL;rw[cL d,gN ds];rfl
end
theorem kS:∀{ds es:List Dt},eqL ds es=true->ds.length=es.length
 |[],[],_=>rfl
 |[],_ :: _,h=>by unfold eqL at h;cases h
 |_ :: _,[],h=>by unfold eqL at h;cases h
 |d :: ds,e :: es,h=>by
  unfold eqL at h
  rw[bq,bq,kS (uo.mp h).2]
theorem iC (n:Nat)(f:Nat->Bool):(aw (n+1)).all f=(f 0 && (aw n).all λj=>f (j+1)):=by
 rw[kn,qt,Bh]
 rfl
theorem kF:∀(ds es:List Dt),((aw (min ds.length es.length)).all (λj=>eqD (ds.getD j .non) (es.getD j .non)) && ds.length == es.length)=eqL ds es
 |[],[]=>by unfold eqL;rfl
 |[],e :: es=>by unfold eqL;simp
 |d :: ds,[]=>by unfold eqL;simp
 |d :: ds,e :: es=>by
  have ih:=kF ds es
  unfold eqL
  rw[<- ih,bq,bq,Nat.succ_min_succ,iC,Bool.and_assoc]
  congr 1
  congr 1
  simp
theorem qH {ds:List Dt}{j:Nat}{d:Dt}(h:ds[j]?=some d):dep d<=oI ds:=by
 induction ds generalizing j with
 |nil=>simp at h
 |cons e es ih=>
  unfold oI
  cases j with
  |zero=>
   have:e=d:=by simpa using h
   subst this
   exact Nat.le_max_left _ _
  |succ j=>exact cg (ih (by simpa using h)) (Nat.le_max_right _ _)
section
variable {X:Cx}{pins:List (Addr×Obj)}{σ:St}{H:Hp}{s:Shared}
theorem Inv.tl_ne (I:Inv X pins σ H s){a:Addr}{xs ys:List V}(h:SqT X.K H a xs)(h':SqL X.K H a ys):False:=by
 obtain⟨its,r,⟨o,e,c,n,d⟩,_⟩:=I.tuple h
 obtain⟨its',r',⟨o',n',e',c',_,d'⟩,_⟩:=I.list h'
 rw[e] at e';cases e'
 rw[c] at c';simp at c'
mutual
theorem Inv.sh_inj (I:Inv X pins σ H s):∀{d e:Dt}{v:V},Sh X.K H d v->Sh X.K H e v->d=e
 | .non,e,v,h,h'=>by
  have h:v = .non:=h
  subst h
  cases e <;> first | rfl | (exact absurd (show V.non=_ from h') (λz=>nomatch z)) | (obtain⟨_,_,z,_⟩:=h';cases z)
 | .bl b,e,v,h,h'=>by
  have h:v = .bl b:=h
  subst h
  cases e <;> first | (cases (show V.bl b=V.bl _ from h');rfl) | (exact absurd (show V.bl b=_ from h') (λz=>nomatch z)) | (obtain⟨_,_,z,_⟩:=h';cases z)
 | .int b,e,v,h,h'=>by
  have h:v = .int b:=h
  subst h
  cases e <;> first | (cases (show V.int b=V.int _ from h');rfl) | (exact absurd (show V.int b=_ from h') (λz=>nomatch z)) | (obtain⟨_,_,z,_⟩:=h';cases z)
 | .str b,e,v,h,h'=>by
  have h:v = .str b:=h
  subst h
  cases e <;> first | (cases (show V.str b=V.str _ from h');rfl) | (exact absurd (show V.str b=_ from h') (λz=>nomatch z)) | (obtain⟨_,_,z,_⟩:=h';cases z)
 | .tup ds,e,v,⟨a,xs,h1,h2,h3⟩,h'=>by
  subst h1
  cases e with
  |tup es=>
   obtain⟨a',xs',z,h2',h3'⟩:=h'
   cases z
   rw[I.tuple_inj h2' h2] at h3'
   rw[Inv.shL_inj I h3 h3']
  |lst es=>
   obtain⟨a',xs',z,h2',h3'⟩:=h'
   cases z
   exact(I.tl_ne h2 h2').elim
  |_=>exact absurd (show V.ref a=_ from h') (λz=>nomatch z)
 | .lst ds,e,v,⟨a,xs,h1,h2,h3⟩,h'=>by
  subst h1
  cases e with
  |lst es=>
   obtain⟨a',xs',z,h2',h3'⟩:=h'
   cases z
   rw[I.list_inj h2' h2] at h3'
   rw[Inv.shL_inj I h3 h3']
  |tup es=>
   obtain⟨a',xs',z,h2',h3'⟩:=h'
   cases z
   exact(I.tl_ne h2' h2).elim
  |_=>exact absurd (show V.ref a=_ from h') (λz=>nomatch z)
theorem Inv.shL_inj (I:Inv X pins σ H s):∀{ds es:List Dt}{xs:List V},ShL X.K H ds xs->ShL X.K H es xs->ds=es
 |[],[],_,_,_=>rfl
 |[],e :: es,_,h,⟨x,r,h1,_⟩=>by rw[show _=[] from h] at h1;cases h1
 |d :: ds,[],_,⟨x,r,h1,_⟩,h=>by rw[show _=[] from h] at h1;cases h1
 |d :: ds,e :: es,_,⟨x,r,h1,h2,h3⟩,⟨x',r',h1',h2',h3'⟩=>by
  rw[h1] at h1'
  cases h1'
  rw[Inv.sh_inj I h2 h2',Inv.shL_inj I h3 h3']
end
end
section
variable {X:Cx}{pins:List (Addr×Obj)}{σ:St}{H:Hp}{s:Shared}
open PySem.SeqAt
theorem mG {ds es:List Dt}{xs ys:List V}{us vs:List Value}(hs:ShL X.K H ds xs)(hr:Vals xs us)(hs':ShL X.K H es ys)(hr':Vals ys vs){A:Around}
  (h:∀(d e:Dt) (x y:V) (u v:Value),(∃j:Nat,ds[j]?=some d)->RelV x u->RelV y v->Sh X.K H d x->Sh X.K H e y->EqAt A s u v (eqD d e)) :
  ∀j (h1:j<us.toArray.size) (h2:j<vs.toArray.size),EqAt A s us.toArray[j] vs.toArray[j] (eqD (ds.getD j .non) (es.getD j .non)):=by
 intro j h1 h2
 have l1:=hs.length
 have l2:=hr.length
 have l3:=hs'.length
 have l4:=hr'.length
 have g1:j<us.length:=by simpa using h1
 have g2:j<vs.length:=by simpa using h2
 have e1:ds[j]?=some (ds.getD j .non):=by rw[aj,ah (by omega)];rfl
 have e2:es[j]?=some (es.getD j .non):=by rw[aj,ah (by omega)];rfl
 obtain⟨x,hx,sx⟩:=hs.get e1
 obtain⟨y,hy,sy⟩:=hs'.get e2
 obtain⟨u,hu,ru⟩:=hr.get hx
 obtain⟨v,hv,rv⟩:=hr'.get hy
 have q1:us.toArray[j]=u:=by
  rw[ah g1] at hu
  simpa using hu
 have q2:vs.toArray[j]=v:=by
  rw[ah g2] at hv
  simpa using hv
 rw[q1,q2]
 exact h _ _ x y u v ⟨j,e1⟩ ru rv sx sy
theorem Inv.eq_sh (I:Inv X pins σ H s):∀(n:Nat) (A:Around) (d e:Dt) (x y:V) (u v:Value),dep d<=n->A.units+n<cLine->RelV x u->RelV y v->Sh X.K H d x->Sh X.K H e y->RcAt A s u v (eqD d e)/\EqAt A s u v (eqD d e):=by
 intro n
 induction n with
 |zero=>
  intro A d e x y u v hd hu rx ry hx hy
  have hu0:A.units<cLine:=by omega
  cases d with
  |tup ds=>unfold dep at hd;omega
  |lst ds=>unfold dep at hd;omega
  |non=>
   obtain rfl:x = .non:=hx
   obtain rfl:u=Value.none:=rx
   cases e with
   |non=>obtain rfl:y = .non:=hy;obtain rfl:v=Value.none:=ry;unfold eqD;exact⟨RcAt.none_none,EqAt.same _⟩
   |bl b=>obtain rfl:y = .bl b:=hy;obtain rfl:v=Value.bool b:=ry;unfold eqD;exact⟨RcAt.none_bool b,EqAt.none_bool b⟩
   |int b=>obtain rfl:y = .int b:=hy;obtain⟨t,rfl⟩:=ry;unfold eqD;exact⟨RcAt.none_int b t,EqAt.none_int b t⟩
   |str b=>obtain rfl:y = .str b:=hy;obtain⟨t,rfl⟩:=ry;unfold eqD;exact⟨RcAt.none_str b t,EqAt.none_str b t⟩
   |tup es=>obtain⟨b,ys,rfl,hq,_⟩:=hy;obtain rfl:v=Value.ref b:=ry;obtain⟨its,_,p,_⟩:=I.tuple hq;unfold eqD;exact⟨RcAt.none_tuple (show s.heap.IsTuple b its.toArray from p) hu0,EqAt.none_tuple (show s.heap.IsTuple b its.toArray from p) hu0⟩
   |lst es=>obtain⟨b,ys,rfl,hq,_⟩:=hy;obtain rfl:v=Value.ref b:=ry;obtain⟨its,_,p,_⟩:=I.list hq;unfold eqD;exact⟨RcAt.none_list p.isList hu0,EqAt.none_list p.isList hu0⟩
  |bl a=>
   obtain rfl:x = .bl a:=hx
   obtain rfl:u=Value.bool a:=rx
   cases e with
   |non=>obtain rfl:y = .non:=hy;obtain rfl:v=Value.none:=ry;unfold eqD;exact⟨RcAt.bool_none a,EqAt.bool_none a⟩
   |bl b=>obtain rfl:y = .bl b:=hy;obtain rfl:v=Value.bool b:=ry;unfold eqD;exact⟨RcAt.bool_bool a b,EqAt.bool_bool a b⟩
   |int b=>obtain rfl:y = .int b:=hy;obtain⟨t,rfl⟩:=ry;unfold eqD;exact⟨RcAt.bool_int a b t,EqAt.bool_int a b t⟩
   |str b=>obtain rfl:y = .str b:=hy;obtain⟨t,rfl⟩:=ry;unfold eqD;exact⟨RcAt.bool_str a b t,EqAt.bool_str a b t⟩
   |tup es=>obtain⟨b,ys,rfl,hq,_⟩:=hy;obtain rfl:v=Value.ref b:=ry;obtain⟨its,_,p,_⟩:=I.tuple hq;unfold eqD;exact⟨RcAt.bool_tuple a (show s.heap.IsTuple b its.toArray from p) hu0,EqAt.bool_tuple a (show s.heap.IsTuple b its.toArray from p) hu0⟩
   |lst es=>obtain⟨b,ys,rfl,hq,_⟩:=hy;obtain rfl:v=Value.ref b:=ry;obtain⟨its,_,p,_⟩:=I.list hq;unfold eqD;exact⟨RcAt.bool_list a p.isList hu0,EqAt.bool_list a p.isList hu0⟩
  |int a=>
   obtain rfl:x = .int a:=hx
   obtain⟨t0,rfl⟩:=rx
   cases e with
   |non=>obtain rfl:y = .non:=hy;obtain rfl:v=Value.none:=ry;unfold eqD;exact⟨RcAt.int_none a t0,EqAt.int_none a t0⟩
   |bl b=>obtain rfl:y = .bl b:=hy;obtain rfl:v=Value.bool b:=ry;unfold eqD;exact⟨RcAt.int_bool a t0 b,EqAt.int_bool a t0 b⟩
   |int b=>obtain rfl:y = .int b:=hy;obtain⟨t,rfl⟩:=ry;unfold eqD;exact⟨RcAt.int_int a t0 b t,EqAt.int_int a t0 b t⟩
   |str b=>obtain rfl:y = .str b:=hy;obtain⟨t,rfl⟩:=ry;unfold eqD;exact⟨RcAt.int_str a t0 b t,EqAt.int_str a t0 b t⟩
   |tup es=>obtain⟨b,ys,rfl,hq,_⟩:=hy;obtain rfl:v=Value.ref b:=ry;obtain⟨its,_,p,_⟩:=I.tuple hq;unfold eqD;exact⟨RcAt.int_tuple a t0 (show s.heap.IsTuple b its.toArray from p) hu0,EqAt.int_tuple a t0 (show s.heap.IsTuple b its.toArray from p) hu0⟩
   |lst es=>obtain⟨b,ys,rfl,hq,_⟩:=hy;obtain rfl:v=Value.ref b:=ry;obtain⟨its,_,p,_⟩:=I.list hq;unfold eqD;exact⟨RcAt.int_list a t0 p.isList hu0,EqAt.int_list a t0 p.isList hu0⟩
  |str a=>
   obtain rfl:x = .str a:=hx
   obtain⟨t0,rfl⟩:=rx
   cases e with
   |non=>obtain rfl:y = .non:=hy;obtain rfl:v=Value.none:=ry;unfold eqD;exact⟨RcAt.str_none a t0,EqAt.str_none a t0⟩
   |bl b=>obtain rfl:y = .bl b:=hy;obtain rfl:v=Value.bool b:=ry;unfold eqD;exact⟨RcAt.str_bool a t0 b,EqAt.str_bool a t0 b⟩
   |int b=>obtain rfl:y = .int b:=hy;obtain⟨t,rfl⟩:=ry;unfold eqD;exact⟨RcAt.str_int a t0 b t,EqAt.str_int a t0 b t⟩
   |str b=>obtain rfl:y = .str b:=hy;obtain⟨t,rfl⟩:=ry;unfold eqD;exact⟨RcAt.str_str a t0 b t,EqAt.str_str a t0 b t⟩
   |tup es=>obtain⟨b,ys,rfl,hq,_⟩:=hy;obtain rfl:v=Value.ref b:=ry;obtain⟨its,_,p,_⟩:=I.tuple hq;unfold eqD;exact⟨RcAt.str_tuple a t0 (show s.heap.IsTuple b its.toArray from p) hu0,EqAt.str_tuple a t0 (show s.heap.IsTuple b its.toArray from p) hu0⟩
   |lst es=>obtain⟨b,ys,rfl,hq,_⟩:=hy;obtain rfl:v=Value.ref b:=ry;obtain⟨its,_,p,_⟩:=I.list hq;unfold eqD;exact⟨RcAt.str_list a t0 p.isList hu0,EqAt.str_list a t0 p.isList hu0⟩
 |succ n ih=>
  intro A d e x y u v hd hu rx ry hx hy
  have hu0:A.units<cLine:=by omega
  by_cases hd0:dep d<=n
  ·exact ih A d e x y u v hd0 (by omega) rx ry hx hy
  cases d with
  |non=>exact absurd (bc _) hd0
  |bl a=>exact absurd (bc _) hd0
  |int a=>exact absurd (bc _) hd0
  |str a=>exact absurd (bc _) hd0
  |tup ds=>
   have hdd:oI ds<=n:=by unfold dep at hd;omega
   have hx0:=hx
   obtain⟨a,xs,rfl,hq,hl⟩:=hx
   obtain rfl:u=Value.ref a:=rx
   obtain⟨its,rv,p,_⟩:=I.tuple hq
   have p:s.heap.IsTuple a its.toArray:=p
   cases e with
   |non=>obtain rfl:y = .non:=hy;obtain rfl:v=Value.none:=ry;unfold eqD;exact⟨RcAt.tuple_none p hu0,EqAt.tuple_none p hu0⟩
   |bl b=>obtain rfl:y = .bl b:=hy;obtain rfl:v=Value.bool b:=ry;unfold eqD;exact⟨RcAt.tuple_bool b p hu0,EqAt.tuple_bool b p hu0⟩
   |int b=>obtain rfl:y = .int b:=hy;obtain⟨t,rfl⟩:=ry;unfold eqD;exact⟨RcAt.tuple_int b t p hu0,EqAt.tuple_int b t p hu0⟩
   |str b=>obtain rfl:y = .str b:=hy;obtain⟨t,rfl⟩:=ry;unfold eqD;exact⟨RcAt.tuple_str b t p hu0,EqAt.tuple_str b t p hu0⟩
   |lst es=>obtain⟨b,ys,rfl,hq',_⟩:=hy;obtain rfl:v=Value.ref b:=ry;obtain⟨its',_,p',_⟩:=I.list hq';unfold eqD;exact⟨RcAt.tuple_list p p'.isList hu0,EqAt.tuple_list p p'.isList hu0⟩
   |tup es=>
    have hy0:=hy
    obtain⟨b,ys,rfl,hq',hl'⟩:=hy
    obtain rfl:v=Value.ref b:=ry
    obtain⟨its',rv',p',_⟩:=I.tuple hq'
    have p':s.heap.IsTuple b its'.toArray:=p'
    have he:=mG (A:=A.in1) (s:=s) hl rv hl' rv' (λd e x y u v ⟨j,hj⟩ r1 r2 s1 s2=>(ih A.in1 d e x y u v (cg (qH hj) hdd) (by show A.units+1+n<cLine;omega) r1 r2 s1 s2).2)
    have rc:=RcAt.tuples p p' hu0 he
    have l1:=hl.length
    have l2:=rv.length
    have l3:=hl'.length
    have l4:=rv'.length
    rw[av,av,<- l2,<- l4,<- l1,<- l3,kF] at rc
    unfold eqD
    refine⟨rc,?_⟩
    by_cases hab:a=b
    ·subst hab
     have:=I.sh_inj hx0 hy0
     cases this
     rw[gN]
     exact EqAt.same _
    ·exact EqAt.of_refs hab rc
  |lst ds=>
   have hdd:oI ds<=n:=by unfold dep at hd;omega
   have hx0:=hx
   obtain⟨a,xs,rfl,hq,hl⟩:=hx
   obtain rfl:u=Value.ref a:=rx
   obtain⟨its,rv,p,_⟩:=I.list hq
   have p:=p.isList
   cases e with
   |non=>obtain rfl:y = .non:=hy;obtain rfl:v=Value.none:=ry;unfold eqD;exact⟨RcAt.list_none p hu0,EqAt.list_none p hu0⟩
   |bl b=>obtain rfl:y = .bl b:=hy;obtain rfl:v=Value.bool b:=ry;unfold eqD;exact⟨RcAt.list_bool b p hu0,EqAt.list_bool b p hu0⟩
   |int b=>obtain rfl:y = .int b:=hy;obtain⟨t,rfl⟩:=ry;unfold eqD;exact⟨RcAt.list_int b t p hu0,EqAt.list_int b t p hu0⟩
   |str b=>obtain rfl:y = .str b:=hy;obtain⟨t,rfl⟩:=ry;unfold eqD;exact⟨RcAt.list_str b t p hu0,EqAt.list_str b t p hu0⟩
   |tup es=>obtain⟨b,ys,rfl,hq',_⟩:=hy;obtain rfl:v=Value.ref b:=ry;obtain⟨its',_,p',_⟩:=I.tuple hq';unfold eqD;exact⟨RcAt.list_tuple p (show s.heap.IsTuple b its'.toArray from p') hu0,EqAt.list_tuple p (show s.heap.IsTuple b its'.toArray from p') hu0⟩
   |lst es=>
    have hy0:=hy
    obtain⟨b,ys,rfl,hq',hl'⟩:=hy
    obtain rfl:v=Value.ref b:=ry
    obtain⟨its',rv',p',_⟩:=I.list hq'
    have p':=p'.isList
    have l1:=hl.length
    have l2:=rv.length
    have l3:=hl'.length
    have l4:=rv'.length
    have rc:RcAt A s (.ref a) (.ref b) (eqL ds es):=by
     by_cases hz:ds.length=es.length
     ·have he:=mG (A:=A.in1) (s:=s) hl rv hl' rv' (λd e x y u v ⟨j,hj⟩ r1 r2 s1 s2=>(ih A.in1 d e x y u v (cg (qH hj) hdd) (by show A.units+1+n<cLine;omega) r1 r2 s1 s2).2)
      have rc:=RcAt.lists p p' (by rw[av,av];omega) hu0 he
      rw[av,<- l2,<- l1] at rc
      have q:=kF ds es
      rw[<- hz,Nat.min_self,beq_self_eq_true,Bool.and_true] at q
      rw[<- q]
      exact rc
     ·have q:eqL ds es=false:=by
       cases q:eqL ds es with
       |false=>rfl
       |true=>exact absurd (kS q) hz
      rw[q]
      exact RcAt.lists_lengths p p' (by rw[av,av];simp;omega) hu0
    unfold eqD
    refine⟨rc,?_⟩
    by_cases hab:a=b
    ·subst hab
     have:=I.sh_inj hx0 hy0
     cases this
     rw[gN]
     exact EqAt.same _
    ·exact EqAt.of_refs hab rc
inductive aIa (K:aa) (x y:V) (H:Hp) (Q:VK):Prop
 |mk (d e:Dt) (z:dep d<=100) (hx:Sh K H d x) (hy:Sh K H e y) (q:Q (.bl (eqD d e)) H):aIa K x y H Q
def nG (K:aa):R2:=λx y H Q=>aIa K x y H Q
theorem aHT (hu:X.A.units+100<cLine):OpR X (i8 .Eq) (nG X.K):=by
 intro pins s σ H x y v u Q I rx ry ⟨d,e,hd,hx,hy,q⟩
 exact(I.eq_sh 100 X.A d e x y v u hd hu rx ry hx hy).1 X.prog X.w X.xe _ ⟨.bl _,H,I,rfl,q⟩
end
section
variable {X:Cx}{pins:List (Addr×Obj)}{σ:St}{H:Hp}{s:Shared}
open PySem.SeqAt
theorem Inv.ne_sh (I:Inv X pins σ H s){A:Around}(d e:Dt)(x y:V)(u v:Value)(hd:dep d<=100)(hu:A.units+101<cLine)(rx:RelV x u)(ry:RelV y v)(hx:Sh X.K H d x)(hy:Sh X.K H e y):RcNeAt A s u v (!eqD d e):=by
 have hu0:A.units<cLine:=by omega
 cases d with
 |non=>
  obtain rfl:x = .non:=hx
  obtain rfl:u=Value.none:=rx
  cases e with
  |non=>obtain rfl:y = .non:=hy;obtain rfl:v=Value.none:=ry;unfold eqD;exact RcNeAt.none_none
  |bl b=>obtain rfl:y = .bl b:=hy;obtain rfl:v=Value.bool b:=ry;unfold eqD;exact RcNeAt.none_bool b
  |int b=>obtain rfl:y = .int b:=hy;obtain⟨t,rfl⟩:=ry;unfold eqD;exact RcNeAt.none_int b t
  |str b=>obtain rfl:y = .str b:=hy;obtain⟨t,rfl⟩:=ry;unfold eqD;exact RcNeAt.none_str b t
  |tup es=>obtain⟨b,ys,rfl,hq,_⟩:=hy;obtain rfl:v=Value.ref b:=ry;obtain⟨its,_,p,_⟩:=I.tuple hq;unfold eqD;exact RcNeAt.none_tuple (show s.heap.IsTuple b its.toArray from p) hu0
  |lst es=>obtain⟨b,ys,rfl,hq,_⟩:=hy;obtain rfl:v=Value.ref b:=ry;obtain⟨its,_,p,_⟩:=I.list hq;unfold eqD;exact RcNeAt.none_list p.isList hu0
 |bl a=>
  obtain rfl:x = .bl a:=hx
  obtain rfl:u=Value.bool a:=rx
  cases e with
  |non=>obtain rfl:y = .non:=hy;obtain rfl:v=Value.none:=ry;unfold eqD;exact RcNeAt.bool_none a
  |bl b=>obtain rfl:y = .bl b:=hy;obtain rfl:v=Value.bool b:=ry;unfold eqD;exact RcNeAt.bool_bool a b
  |int b=>obtain rfl:y = .int b:=hy;obtain⟨t,rfl⟩:=ry;unfold eqD;exact RcNeAt.bool_int a b t
  |str b=>obtain rfl:y = .str b:=hy;obtain⟨t,rfl⟩:=ry;unfold eqD;exact RcNeAt.bool_str a b t
  |tup es=>obtain⟨b,ys,rfl,hq,_⟩:=hy;obtain rfl:v=Value.ref b:=ry;obtain⟨its,_,p,_⟩:=I.tuple hq;unfold eqD;exact RcNeAt.bool_tuple a (show s.heap.IsTuple b its.toArray from p) hu0
  |lst es=>obtain⟨b,ys,rfl,hq,_⟩:=hy;obtain rfl:v=Value.ref b:=ry;obtain⟨its,_,p,_⟩:=I.list hq;unfold eqD;exact RcNeAt.bool_list a p.isList hu0
 |int a=>
  obtain rfl:x = .int a:=hx
  obtain⟨t0,rfl⟩:=rx
  cases e with
  |non=>obtain rfl:y = .non:=hy;obtain rfl:v=Value.none:=ry;unfold eqD;exact RcNeAt.int_none a t0
  |bl b=>obtain rfl:y = .bl b:=hy;obtain rfl:v=Value.bool b:=ry;unfold eqD;exact RcNeAt.int_bool a t0 b
  |int b=>obtain rfl:y = .int b:=hy;obtain⟨t,rfl⟩:=ry;unfold eqD;exact RcNeAt.int_int a t0 b t
  |str b=>obtain rfl:y = .str b:=hy;obtain⟨t,rfl⟩:=ry;unfold eqD;exact RcNeAt.int_str a t0 b t
  |tup es=>obtain⟨b,ys,rfl,hq,_⟩:=hy;obtain rfl:v=Value.ref b:=ry;obtain⟨its,_,p,_⟩:=I.tuple hq;unfold eqD;exact RcNeAt.int_tuple a t0 (show s.heap.IsTuple b its.toArray from p) hu0
  |lst es=>obtain⟨b,ys,rfl,hq,_⟩:=hy;obtain rfl:v=Value.ref b:=ry;obtain⟨its,_,p,_⟩:=I.list hq;unfold eqD;exact RcNeAt.int_list a t0 p.isList hu0
 |str a=>
  obtain rfl:x = .str a:=hx
  obtain⟨t0,rfl⟩:=rx
  cases e with
  |non=>obtain rfl:y = .non:=hy;obtain rfl:v=Value.none:=ry;unfold eqD;exact RcNeAt.str_none a t0
  |bl b=>obtain rfl:y = .bl b:=hy;obtain rfl:v=Value.bool b:=ry;unfold eqD;exact RcNeAt.str_bool a t0 b
  |int b=>obtain rfl:y = .int b:=hy;obtain⟨t,rfl⟩:=ry;unfold eqD;exact RcNeAt.str_int a t0 b t
  |str b=>obtain rfl:y = .str b:=hy;obtain⟨t,rfl⟩:=ry;unfold eqD;exact RcNeAt.str_str a t0 b t
  |tup es=>obtain⟨b,ys,rfl,hq,_⟩:=hy;obtain rfl:v=Value.ref b:=ry;obtain⟨its,_,p,_⟩:=I.tuple hq;unfold eqD;exact RcNeAt.str_tuple a t0 (show s.heap.IsTuple b its.toArray from p) hu0
  |lst es=>obtain⟨b,ys,rfl,hq,_⟩:=hy;obtain rfl:v=Value.ref b:=ry;obtain⟨its,_,p,_⟩:=I.list hq;unfold eqD;exact RcNeAt.str_list a t0 p.isList hu0
 |tup ds=>
  have hdd:oI ds<=100:=by unfold dep at hd;omega
  obtain⟨a,xs,rfl,hq,hl⟩:=hx
  obtain rfl:u=Value.ref a:=rx
  obtain⟨its,rv,p,_⟩:=I.tuple hq
  have p:s.heap.IsTuple a its.toArray:=p
  cases e with
  |non=>obtain rfl:y = .non:=hy;obtain rfl:v=Value.none:=ry;unfold eqD;exact RcNeAt.tuple_none p hu0
  |bl b=>obtain rfl:y = .bl b:=hy;obtain rfl:v=Value.bool b:=ry;unfold eqD;exact RcNeAt.tuple_bool b p hu0
  |int b=>obtain rfl:y = .int b:=hy;obtain⟨t,rfl⟩:=ry;unfold eqD;exact RcNeAt.tuple_int b t p hu0
  |str b=>obtain rfl:y = .str b:=hy;obtain⟨t,rfl⟩:=ry;unfold eqD;exact RcNeAt.tuple_str b t p hu0
  |lst es=>obtain⟨b,ys,rfl,hq',_⟩:=hy;obtain rfl:v=Value.ref b:=ry;obtain⟨its',_,p',_⟩:=I.list hq';unfold eqD;exact RcNeAt.tuple_list p p'.isList hu0
  |tup es=>
   obtain⟨b,ys,rfl,hq',hl'⟩:=hy
   obtain rfl:v=Value.ref b:=ry
   obtain⟨its',rv',p',_⟩:=I.tuple hq'
   have p':s.heap.IsTuple b its'.toArray:=p'
   have he:=mG (A:=A.in1) (s:=s) hl rv hl' rv' (λd e x y u v ⟨j,hj⟩ r1 r2 s1 s2=>(I.eq_sh 100 A.in1 d e x y u v (cg (qH hj) hdd) (by show A.units+1+100<cLine;omega) r1 r2 s1 s2).2)
   have rc:=RcNeAt.tuples p p' hu0 he
   have l1:=hl.length
   have l2:=rv.length
   have l3:=hl'.length
   have l4:=rv'.length
   rw[av,av,<- l2,<- l4,<- l1,<- l3,kF] at rc
   unfold eqD
   exact rc
 |lst ds=>
  have hdd:oI ds<=100:=by unfold dep at hd;omega
  obtain⟨a,xs,rfl,hq,hl⟩:=hx
  obtain rfl:u=Value.ref a:=rx
  obtain⟨its,rv,p,_⟩:=I.list hq
  have p:=p.isList
  cases e with
  |non=>obtain rfl:y = .non:=hy;obtain rfl:v=Value.none:=ry;unfold eqD;exact RcNeAt.list_none p hu0
  |bl b=>obtain rfl:y = .bl b:=hy;obtain rfl:v=Value.bool b:=ry;unfold eqD;exact RcNeAt.list_bool b p hu0
  |int b=>obtain rfl:y = .int b:=hy;obtain⟨t,rfl⟩:=ry;unfold eqD;exact RcNeAt.list_int b t p hu0
  |str b=>obtain rfl:y = .str b:=hy;obtain⟨t,rfl⟩:=ry;unfold eqD;exact RcNeAt.list_str b t p hu0
  |tup es=>obtain⟨b,ys,rfl,hq',_⟩:=hy;obtain rfl:v=Value.ref b:=ry;obtain⟨its',_,p',_⟩:=I.tuple hq';unfold eqD;exact RcNeAt.list_tuple p (show s.heap.IsTuple b its'.toArray from p') hu0
  |lst es=>
   obtain⟨b,ys,rfl,hq',hl'⟩:=hy
   obtain rfl:v=Value.ref b:=ry
   obtain⟨its',rv',p',_⟩:=I.list hq'
   have p':=p'.isList
   have l1:=hl.length
   have l2:=rv.length
   have l3:=hl'.length
   have l4:=rv'.length
   unfold eqD
   by_cases hz:ds.length=es.length
   ·have he:=mG (A:=A.in1) (s:=s) hl rv hl' rv' (λd e x y u v ⟨j,hj⟩ r1 r2 s1 s2=>(I.eq_sh 100 A.in1 d e x y u v (cg (qH hj) hdd) (by show A.units+1+100<cLine;omega) r1 r2 s1 s2).2)
    have rc:=RcNeAt.lists p p' (by rw[av,av];omega) hu0 he
    rw[av,<- l2,<- l1] at rc
    have q:=kF ds es
    rw[<- hz,Nat.min_self,beq_self_eq_true,Bool.and_true] at q
    rw[<- q]
    exact rc
   ·have q:eqL ds es=false:=by
     cases q:eqL ds es with
     |false=>rfl
     |true=>exact absurd (kS q) hz
    rw[q]
    exact RcNeAt.lists_lengths p p' (by rw[av,av];simp;omega) hu0
inductive aHw (K:aa) (x y:V) (H:Hp) (Q:VK):Prop
 |mk (d e:Dt) (z:dep d<=100) (hx:Sh K H d x) (hy:Sh K H e y) (q:Q (.bl (!eqD d e)) H):aHw K x y H Q
def aAc (K:aa):R2:=λx y H Q=>aHw K x y H Q
theorem aFf (hu:X.A.units+101<cLine):OpR X (i8 .NotEq) (aAc X.K):=by
 intro pins s σ H x y v u Q I rx ry ⟨d,e,hd,hx,hy,q⟩
 exact(I.ne_sh d e x y v u hd hu rx ry hx hy) X.prog X.w X.xe _ ⟨.bl _,H,I,rfl,q⟩
def aGU:Dt->String->Bool
 | .non,_=>false
 | .bl _,T=>T == "bool" || T == "int"
 | .int _,T=>T == "int"
 | .str _,T=>T == "str"
 | .tup _,T=>T == "tuple"
 | .lst _,T=>T == "list"
def aFh (K:aa):List V->Hp->VK->Prop:=λvs H Q=>∃x d T,vs=[x, .ty T]/\(T="int"\/T="bool"\/T="tuple"\/T="list"\/T="str")/\Sh K H d x/\Q (.bl (aGU d T)) H
theorem aDS:CallR X (.builtin "isinstance") (aFh X.K):=by
 intro pins s σ H xs us Q I r ⟨x,d,T,e,hT,hx,q⟩
 subst e
 obtain⟨u,w',rfl,rx,rt⟩:=r.two
 obtain rfl:w'=Value.type T:=rt
 have fin:∀(b:Bool) (t:Nat),aGU d T=b->EP X pins σ Q (.bool b) { s with toks:=t }:=λb t e=>⟨.bl b,H,I.tok t,rfl,by rw[<- e];exact q⟩
 have fin0:∀(b:Bool),aGU d T=b->EP X pins σ Q (.bool b) s:=λb e=>⟨.bl b,H,I,rfl,by rw[<- e];exact q⟩
 cases d with
 |non=>
  obtain rfl:x = .non:=hx
  obtain rfl:u=Value.none:=rx
  rcases hT with rfl | rfl | rfl | rfl | rfl
  ·exact IsiPair.NoneType_int (fin _ _ rfl)
  ·exact IsiPair.NoneType_bool (fin _ _ rfl)
  ·exact IsiPair.NoneType_tuple (fin _ _ rfl)
  ·exact IsiPair.NoneType_list (fin _ _ rfl)
  ·exact IsiPair.NoneType_str (fin _ _ rfl)
 |bl b=>
  obtain rfl:x = .bl b:=hx
  obtain rfl:u=Value.bool b:=rx
  rcases hT with rfl | rfl | rfl | rfl | rfl
  ·exact IsiPair.bool_int (fin0 _ rfl)
  ·exact IsiPair.bool_bool (fin0 _ rfl)
  ·exact IsiPair.bool_tuple (fin _ _ rfl)
  ·exact IsiPair.bool_list (fin _ _ rfl)
  ·exact IsiPair.bool_str (fin _ _ rfl)
 |int b=>
  obtain rfl:x = .int b:=hx
  obtain⟨t,rfl⟩:=rx
  rcases hT with rfl | rfl | rfl | rfl | rfl
  ·exact IsiPair.int_int (fin0 _ rfl)
  ·exact IsiPair.int_bool (fin _ _ rfl)
  ·exact IsiPair.int_tuple (fin _ _ rfl)
  ·exact IsiPair.int_list (fin _ _ rfl)
  ·exact IsiPair.int_str (fin _ _ rfl)
 |str b=>
  obtain rfl:x = .str b:=hx
  obtain⟨t,rfl⟩:=rx
  rcases hT with rfl | rfl | rfl | rfl | rfl
  ·exact IsiPair.str_int (fin _ _ rfl)
  ·exact IsiPair.str_bool (fin _ _ rfl)
  ·exact IsiPair.str_tuple (fin _ _ rfl)
  ·exact IsiPair.str_list (fin _ _ rfl)
  ·exact IsiPair.str_str (fin0 _ rfl)
 |tup ds=>
  obtain⟨a,ys,rfl,hq,_⟩:=hx
  obtain rfl:u=Value.ref a:=rx
  obtain⟨its,_,⟨o,ho,hc,_⟩,_⟩:=I.tuple hq
  rcases hT with rfl | rfl | rfl | rfl | rfl
  ·exact IsiPair.tuple_int ho hc (fin _ _ rfl)
  ·exact IsiPair.tuple_bool ho hc (fin _ _ rfl)
  ·exact IsiPair.tuple_tuple ho hc (fin0 _ rfl)
  ·exact IsiPair.tuple_list ho hc (fin _ _ rfl)
  ·exact IsiPair.tuple_str ho hc (fin _ _ rfl)
 |lst ds=>
  obtain⟨a,ys,rfl,hq,_⟩:=hx
  obtain rfl:u=Value.ref a:=rx
  obtain⟨its,_,p,_⟩:=I.list hq
  obtain⟨o,ho,hc,_⟩:=p.isList
  rcases hT with rfl | rfl | rfl | rfl | rfl
  ·exact IsiPair.list_int ho hc (fin _ _ rfl)
  ·exact IsiPair.list_bool ho hc (fin _ _ rfl)
  ·exact IsiPair.list_tuple ho hc (fin _ _ rfl)
  ·exact IsiPair.list_list ho hc (fin0 _ rfl)
  ·exact IsiPair.list_str ho hc (fin _ _ rfl)
theorem vQ {prog:Program}{w:World}{A:Around}(hh:A.handled=none)(It ax:Addr)(hne:ax≠It)(items:Array Value) :
  Walks prog w A It [It,ax] [It] items.size (λi v=>items[i]?=some v) (λi h=>h.IsTupleIter It ax i/\h.IsTuple ax items) where
 sub:=λb hb=>by simp at hb;simp[hb]
 frame:=λ_ _ _ st hk=>⟨st.1.at λo e=>hk It (by simp) o e,let⟨o,e,r⟩:=st.2;⟨o,hk ax (by simp) o e,r⟩⟩
 item:=λi s Q E hi st hQ=>by
  refine yb st.1 st.2 (x:=items[i]) (by simp[hi]) λh' hit' hs'=>?_
  refine hQ _ h' s.toks (by simp[hi]) ⟨hit',?_⟩ λb o hb e=>hs'.extBut b o (λh=>hb (by simp[h])) e
  obtain⟨o,e,r⟩:=st.2
  exact⟨o,hs'.extBut _ _ hne e,r⟩
 done:=λs Q E st hQ=>yz hh st.1 st.2 (by simp) λh' he'=>hQ h' s.toks λb o hb e=>he' b o (λh=>hb (by simp[h])) e
 self:=λ_ _ _ _ st hQ=>y3 st.1 hQ
def Sq (K:aa) (H:Hp) (a:Addr) (xs:List V):Prop:=SqL K H a xs\/SqT K H a xs
theorem jF {A:Around}{a:Addr}{xs:List V}{Q:Value->Shared->Prop}{E:Value->Shared->Prop}(hh:A.handled=none)(I:Inv X pins σ H s)(h:Sq X.K H a xs)
  (hq:∀(its:List Value) (It:Addr) (fp wr:List Addr) (S:Nat->Heap->Prop) (s2:Shared),Vals xs its->xs.length<=ba->Walks X.prog X.w A It fp wr its.length (λi v=>its[i]?=some v) S->S 0 s2.heap->(∀b∈fp,b<s2.heap.objs.size) ->
   (∀h' tk,(∀b o,b∉wr->s2.heap.get? b=some o->h'.get? b=some o)->Inv X pins σ H { s2 with heap:=h',toks:=tk })->Q (.ref It) s2):wpAny (model X.prog X.w) A (Bd (.ref a)) Q E s:=by
 rcases h with h | h
 ·obtain⟨its,rv,p,hz⟩:=I.list h
  refine xn p.isList ?_
  have ha:a<s.heap.objs.size:=by obtain⟨o,e,_⟩:=p.isList;exact br e
  refine hq its s.heap.objs.size [s.heap.objs.size,a] [s.heap.objs.size] (λi h=>h.IsListIter s.heap.objs.size a i/\h.IsList a its.toArray) _ rv hz (by simpa using Walks.list (prog:=X.prog) (w:=X.w) hh s.heap.objs.size a (df ha) its.toArray) ⟨⟨_,bg _ rfl,rfl,rfl⟩,?_⟩ (λb hb=>?_) λh' tk hk=>?_
  ·obtain⟨o,e,r⟩:=p.isList
   exact⟨o,ak _ e,r⟩
  ·simp at hb
   show b<(s.heap.push _).objs.size
   rw[ji]
   rcases hb with rfl | rfl
   ·exact nr _
   ·exact tu ha
  ·exact I.kept λb o e=>hk b o (by simpa using df (br e)) (ak _ e)
 ·obtain⟨its,rv,p,hz⟩:=I.tuple h
  have p:s.heap.IsTuple a its.toArray:=p
  refine wo p ?_
  have ha:a<s.heap.objs.size:=by obtain⟨o,e,_⟩:=p;exact br e
  refine hq its s.heap.objs.size [s.heap.objs.size,a] [s.heap.objs.size] (λi h=>h.IsTupleIter s.heap.objs.size a i/\h.IsTuple a its.toArray) _ rv hz (by simpa using vQ (prog:=X.prog) (w:=X.w) hh s.heap.objs.size a (df ha) its.toArray) ⟨⟨_,bg _ rfl,rfl,rfl⟩,?_⟩ (λb hb=>?_) λh' tk hk=>?_
  ·obtain⟨o,e,r⟩:=p
   exact⟨o,ak _ e,r⟩
  ·simp at hb
   show b<(s.heap.push _).objs.size
   rw[ji]
   rcases hb with rfl | rfl
   ·exact nr _
   ·exact tu ha
  ·exact I.kept λb o e=>hk b o (by simpa using df (br e)) (ak _ e)
theorem Vals.getR:∀{xs:List V}{us:List Value}{i:Nat}{u:Value},Vals xs us->us[i]?=some u->∃x,xs[i]?=some x/\RelV x u
 |_,_,_,_, .nil,e=>by simp at e
 |_,_,0,_, .cons r _,e=>by simp at e;subst e;exact⟨_,rfl,r⟩
 |_,_,i+1,u, .cons _ t,e=>by
  obtain⟨x,h1,h2⟩:=Vals.getR (i:=i) (u:=u) t (by simpa using e)
  exact⟨x,by simpa using h1,h2⟩
theorem aDs (hc:X.calm=true):CallR X (.builtin "all") (λvs H Q=>∃(a:Addr) (bs:List Bool),vs=[.ref a]/\Sq X.K H a (bs.map V.bl)/\Q (.bl (bs.all id)) H):=by
 intro pins s σ H xs us Q I r ⟨a,bs,e,hq,q⟩
 subst e
 obtain⟨u,rfl,ru⟩:=r.one
 obtain rfl:u=Value.ref a:=ru
 refine call_all_walk (jF (I.ok.hd hc) I hq λits It fp wr S s2 rv hz W st hf hI=>?_)
 refine⟨It,fp,wr,its.length,_,S,λj=>bs.getD j false,rfl,W,st,λi v s' Q' E' hv hQ'=>?_,λh' tk hk=>?_⟩
 ·obtain⟨x,hx,rx⟩:=rv.getR hv
  rw[az] at hx
  cases hb:bs[i]? with
  |none=>rw[hb] at hx;cases hx
  |some b=>
   rw[hb] at hx
   obtain rfl:V.bl b=x:=by simpa using hx
   obtain rfl:v=Value.bool b:=rx
   have:bs.getD i false=b:=by rw[aj,hb];rfl
   have hQ':Q' (bs.getD i false) s':=hQ'
   rw[this] at hQ'
   exact iw hQ'
 ·refine⟨.bl (bs.all id),H,hI h' tk hk,?_,q⟩
  show Value.bool _=Value.bool _
  congr 1
  have hl:its.length=bs.length:=by rw[<- rv.length,ai]
  rw[hl]
  clear q hq rv hl hz
  induction bs with
  |nil=>rfl
  |cons b bs ih=>rw[bq,iC,qt];exact congrArg (λz=>b && z) ih
theorem nZ:∀(ns:List Int) (k:Nat),k<=ns.length->preSum (λj=>ns.getD j 0) k=(ns.take k).sum
 |ns,0,_=>by simp[preSum]
 |ns,k+1,h=>by
  have e:ns.take (k+1)=ns.take k++[ns[k]]:=by
   rw[iz,ah (by omega)];rfl
  have g:ns.getD k 0=ns[k]:=by rw[aj,ah (by omega)];rfl
  rw[preSum,nZ ns k (by omega),e,List.sum_append_int,g]
  simp
theorem aDk (hc:X.calm=true):CallR X (.builtin "sum") (λvs H Q=>∃(a:Addr) (ns:List Int),vs=[.ref a]/\Sq X.K H a (ns.map V.int)/\Q (.int ns.sum) H):=by
 intro pins s σ H xs us Q I r ⟨a,ns,e,hq,q⟩
 subst e
 obtain⟨u,rfl,ru⟩:=r.one
 obtain rfl:u=Value.ref a:=ru
 refine call_sum_walkG (jF (I.ok.hd hc) I hq λits It fp wr S s2 rv hz W st hf hI=>?_)
 refine⟨It,fp,wr,its.length,_,S,λj=>ns.getD j 0,rfl,W,st,hf,λi v hv=>?_,λh' tk t' hk=>?_⟩
 ·obtain⟨x,hx,rx⟩:=rv.getR hv
  rw[az] at hx
  cases hb:ns[i]? with
  |none=>rw[hb] at hx;cases hx
  |some b=>
   rw[hb] at hx
   obtain rfl:V.int b=x:=by simpa using hx
   obtain⟨t,rfl⟩:=rx
   exact⟨t,by show Value.int b t=Value.int (ns.getD i 0) t;rw[aj,hb];rfl⟩
 ·have hl:its.length=ns.length:=by rw[<- rv.length,ai]
  refine⟨.int ns.sum,H,hI h' tk hk,⟨t',?_⟩,q⟩
  rw[hl,nZ ns ns.length (ay _),k7]
theorem pF {bt:Nat->Nat->Bool}:∀k,ju bt k<=k
 |0=>ay _
 |k+1=>by
  unfold ju
  split
  ·exact ay _
  ·exact Nat.le_succ_of_le (pF k)
theorem jL {ns:List Int}:∀(k:Nat),∀j,j<=k->ns.getD (ju (λi j=>decide (ns.getD i 0<ns.getD j 0)) k) 0<=ns.getD j 0
 |0,j,h=>by
  have:j=0:=by omega
  subst this
  exact nc _
 |k+1,j,h=>by
  have ih:=jL (ns:=ns) k
  unfold ju
  by_cases c:ns.getD (k+1) 0<ns.getD (ju (λi j=>decide (ns.getD i 0<ns.getD j 0)) k) 0
  ·rw[if_pos (decide_eq_true c)]
   by_cases e:j=k+1
   ·subst e;exact nc _
   ·have:=ih j (by omega);omega
  ·rw[if_neg (by simpa using c)]
   by_cases e:j=k+1
   ·subst e;omega
   ·exact ih j (by omega)
theorem aDZ (hc:X.calm=true):CallR X (.builtin "min") (λvs H Q=>∃(a:Addr) (ns:List Int),vs=[.ref a]/\Sq X.K H a (ns.map V.int)/\ns≠[]/\∀m:Int,m∈ns->(∀k∈ns,m<=k)->Q (.int m) H):=by
 intro pins s σ H xs us Q I r ⟨a,ns,e,hq,hne,q⟩
 subst e
 obtain⟨u,rfl,ru⟩:=r.one
 obtain rfl:u=Value.ref a:=ru
 refine call_min_walk (jF (I.ok.hd hc) I hq λits It fp wr S s2 rv hz W st hf hI=>?_)
 have hl:its.length=ns.length:=by rw[<- rv.length,ai]
 have hpos:0<ns.length:=vm.mpr hne
 have item:∀(i:Nat) (v:Value),its[i]?=some v->∃t,v = .int (ns.getD i 0) t:=λi v hv=>by
  obtain⟨x,hx,rx⟩:=rv.getR hv
  rw[az] at hx
  cases hb:ns[i]? with
  |none=>rw[hb] at hx;cases hx
  |some b=>
   rw[hb] at hx
   obtain rfl:V.int b=x:=by simpa using hx
   obtain⟨t,rfl⟩:=rx
   exact⟨t,by rw[aj,hb];rfl⟩
 refine⟨It,fp,wr,its.length,_,S,λi j=>decide (ns.getD i 0<ns.getD j 0),rfl,W,st,hf,by omega,λi j vi vj s' Q' E' hi hj hQ'=>?_,λv h' tk hv hk=>?_⟩
 ·obtain⟨t,rfl⟩:=item i vi hi
  obtain⟨t',rfl⟩:=item j vj hj
  exact(lt_int hQ':wpAny (model X.prog X.w) X.A.in1 (i8 .Lt _ _) Q' E' s')
 ·obtain⟨t,rfl⟩:=item _ v hv
  have hb:=pF (bt:=λi j=>decide (ns.getD i 0<ns.getD j 0)) (its.length - 1)
  refine⟨.int _,H,hI h' tk hk,⟨t,rfl⟩,q _ ?_ λk hk=>?_⟩
  ·rw[aj,ah (by omega)]
   exact dz _
  ·obtain⟨j,hj,rfl⟩:=List.mem_iff_getElem.mp hk
   have:=jL (ns:=ns) (its.length - 1) j (by omega)
   rw[aj (l:=ns) (i:=j),ah hj] at this
   exact this
end
section
variable {X:Cx}
def aHQ (K:aa):R2:=λx y H Q=>∃a b xs ys,x = .ref a/\y = .ref b/\SqT K H a xs/\SqT K H b ys/\xs.length+ys.length<=ba /\
 ∀p H',((p=a/\H'=H/\ys=[])\/(p=b/\H'=H/\xs=[])\/(H p=none/\H'=upd H p (.tup (xs++ys))))->SqT K H' p (xs++ys)->Same H H'->Q (.ref p) H'
theorem aG {H:Hp}{p:Addr}(h:H p=none)(o:HO):Same H (upd H p o):=λb u q=>by rw[aL (aK q h)];exact q
theorem aGM:OpR X (km .Add) (aHQ X.K):=by
 intro pins s σ H x y v u Q I rx ry ⟨a,b,xs,ys,ex,ey,ha,hb,hz,q⟩
 subst ex ey
 obtain rfl:v=Value.ref a:=rx
 obtain rfl:u=Value.ref b:=ry
 by_cases hx:xs=[]
 ·obtain⟨its,r1,p1,_⟩:=I.tuple ha
  obtain⟨its2,r2,p2,_⟩:=I.tuple hb
  have he:its=[]:=r1.nil_iff.mpr hx
  obtain⟨⟨cls,dd,data,sl⟩,ho,hc,n,hd⟩:=id p1
  obtain⟨⟨cls2,dd2,data2,sl2⟩,ho2,hc2,n2,hd2⟩:=id p2
  simp only at hc hd hc2 hd2
  subst hc hd hc2 hd2
  refine Be ⟨_,ho,rfl⟩ ⟨_,ho2,rfl⟩ yn AU sr qq (qh _ _)
   (tuple_addW0 a b its.toArray its2.toArray n n2 dd dd2 sl sl2 (by simp[he])) ⟨ho,ho2,?_⟩
  exact⟨.ref b,H,I,rfl,q b H (.inr (.inl ⟨rfl,rfl,hx⟩)) (by rw[hx];exact hb) (Same.refl H)⟩
 ·refine aFU (X:=X) pins s σ H (.ref a) (.ref b) (.ref a) (.ref b) Q I rfl rfl ⟨a,b,xs,ys,rfl,rfl,ha,hb,hx,hz,λhy=>?_,λhy p hp=>?_⟩
  ·exact q a H (.inl ⟨rfl,rfl,hy⟩) (by rw[hy,ke];exact ha) (Same.refl H)
  ·exact q p _ (.inr (.inr ⟨hp,rfl⟩)) (.of aD) (aG hp _)
def bK (K:aa):R2:=λx y H Q=>match x,y with
 | .int i, .int j=>Q (.int (i+j)) H
 | .str i, .str j=>i.length+j.length<=ba/\Q (.str (i++j)) H
 | .ref a, .ref b=>aKC (.ref a) (.ref b) H Q\/aHQ K (.ref a) (.ref b) H Q
 |_,_=>False
theorem aFx:OpR X (km .Add) (bK X.K):=by
 intro pins s σ H x y v u Q I rx ry h
 unfold bK at h
 split at h
 ·exact aHl (X:=X) pins s σ H _ _ v u Q I rx ry ⟨_,_,rfl,rfl,h⟩
 ·exact zL (X:=X) pins s σ H _ _ v u Q I rx ry ⟨_,_,rfl,rfl,h.1,h.2⟩
 ·rcases h with h | h
  ·exact aIq (X:=X) pins s σ H _ _ v u Q I rx ry h
  ·exact aGM (X:=X) pins s σ H _ _ v u Q I rx ry h
 ·exact h.elim
def eG:R2:=λx y H Q=>match x,y with
 | .int i, .int j=>CMul i j/\Q (.int (i*j)) H
 | .ref a, .int k=>aJK (.ref a) (.int k) H Q
 |_,_=>False
theorem dI:OpR X (km .Mult) eG:=by
 intro pins s σ H x y v u Q I rx ry h
 unfold eG at h
 split at h
 ·exact aEq (X:=X) pins s σ H _ _ v u Q I rx ry ⟨_,_,rfl,rfl,h.1,h.2⟩
 ·exact aEK (X:=X) pins s σ H _ _ v u Q I rx ry h
 ·exact h.elim
theorem aKp:IxR X (λx y H Q=>aJh X.K x y H Q\/aJj X.K x y H Q):=aGB.or aIC
theorem Vals.of_get:∀{xs:List V}{us:List Value},xs.length=us.length->(∀(i:Nat) x u,xs[i]?=some x->us[i]?=some u->RelV x u)->Vals xs us
 |[],[],_,_ => .nil
 |[],_ :: _,h,_=>by simp at h
 |_ :: _,[],h,_=>by simp at h
 |x :: xs,u :: us,h,hr => .cons (hr 0 x u rfl rfl) (Vals.of_get (by simpa using h) λi y w h1 h2=>hr (i+1) y w (by simpa using h1) (by simpa using h2))
theorem aBt:CallR X (.type "range") (λvs H Q=>∃n:Int,vs=[.int n]/\∀p,H p=none->Q (.ref p) (upd H p (.rng 0 n))):=by
 intro pins s σ H xs us Q I r ⟨n,e,q⟩
 subst e
 obtain⟨u,rfl,ru⟩:=r.one
 obtain⟨t,rfl⟩:=ru
 refine call_range_1 ⟨.ref s.heap.objs.size,_,I.laid (a:=s.heap.objs.size) (o := .rng 0 n) (λb o e=>ak _ e) (ay _) ⟨_,_,_,bg _ rfl⟩,rfl,q _ (I.hok.fresh (ay _))⟩
theorem aBC:CallR X (.type "range") (λvs H Q=>∃m n:Int,vs=[.int m, .int n]/\∀p,H p=none->Q (.ref p) (upd H p (.rng m n))):=by
 intro pins s σ H xs us Q I r ⟨m,n,e,q⟩
 subst e
 obtain⟨u,u',rfl,ru,ru'⟩:=r.two
 obtain⟨t,rfl⟩:=ru
 obtain⟨t',rfl⟩:=ru'
 refine call_range_2 ⟨.ref s.heap.objs.size,_,I.laid (a:=s.heap.objs.size) (o := .rng m n) (λb o e=>ak _ e) (ay _) ⟨_,_,_,bg _ rfl⟩,rfl,q _ (I.hok.fresh (ay _))⟩
theorem aDw:CallR X (.type "range") (λvs H Q=>(∃n:Int,vs=[.int n]/\∀p,H p=none->Q (.ref p) (upd H p (.rng 0 n)))\/∃m n:Int,vs=[.int m, .int n]/\∀p,H p=none->Q (.ref p) (upd H p (.rng m n))):=aBt.or aBC
def pW (lo hi:Int):List Int:=(aw (hi - lo).toNat).map λi:Nat=>lo+(i:Int)
theorem qX (hc:X.calm=true):CallR X (.type "list") (λvs H Q=>∃(a:Addr) (lo hi:Int),vs=[.ref a]/\H a=some (.rng lo hi)/\(-(2 ^ 62)<=lo/\lo<2 ^ 62/\-(2 ^ 62)<=hi/\hi<2 ^ 62/\hi - lo<=1000000) /\
  ∀p,H p=none->Q (.ref p) (upd H p (.lst ((pW lo hi).map V.int)))):=by
 intro pins s σ H xs us Q I r ⟨a,lo,hi,e,ha,⟨b1,b2,b3,b4,b5⟩,q⟩
 subst e
 obtain⟨u,rfl,ru⟩:=r.one
 obtain rfl:u=Value.ref a:=ru
 obtain⟨t,u,v,hr⟩:=I.hok a _ ha
 refine call_list_range (a:=lo) (b:=hi) (c:=1) (n:=(hi - lo).toNat) (I.ok.hd hc) hr (small_one b1 b2 b3 b4) (by rw[rangeSize_one];split <;> omega) (by omega) λh' tk acc' c' hk hS hI=>?_
 refine⟨.ref s.heap.objs.size,_,I.laid (a:=s.heap.objs.size) (o := .lst ((pW lo hi).map V.int)) hk (ay _) ⟨?_,acc'.toList,c',?_,by simpa using hS⟩,rfl,q _ (I.hok.fresh (ay _))⟩
 ·rw[ai];unfold pW;rw[ai,cz]
  exact cg (show(hi - lo).toNat<=1000000 by omega) (by decide)
 ·refine Vals.of_get ?_ λi x u hx hu=>?_
  ·have el:acc'.toList.length=(hi - lo).toNat:=by rw[<- hI.1];simp
   rw[ai,el];unfold pW;rw[ai,cz]
  ·obtain⟨t,rfl⟩:=hI.2 i u (by simpa using hu)
   rw[az] at hx
   unfold pW at hx
   rw[az] at hx
   cases hi':(aw (hi - lo).toNat)[i]? with
   |none=>rw[hi'] at hx;cases hx
   |some j=>
    rw[hi'] at hx
    have:j=i:=by
     obtain⟨h1,h2⟩:=au.mp hi'
     simpa using h2.symm
    subst this
    obtain rfl:V.int (lo+(j:Int))=x:=by simpa using hx
    exact⟨t,by rw[AA]⟩
theorem pZ (hc:X.calm=true):CallR X (.type "list") (λvs H Q=>(∃p ys,vs=[.ref p]/\(SqL X.K H p ys\/SqT X.K H p ys)/\∀l,H l=none->Q (.ref l) (upd H l (.lst ys))) \/
  ∃(a:Addr) (lo hi:Int),vs=[.ref a]/\H a=some (.rng lo hi)/\(-(2 ^ 62)<=lo/\lo<2 ^ 62/\-(2 ^ 62)<=hi/\hi<2 ^ 62/\hi - lo<=1000000)/\∀p,H p=none->Q (.ref p) (upd H p (.lst ((pW lo hi).map V.int)))):=uL.or (qX hc)
def mS (K:aa) (tl:TE):TI:=λσ H R=>tl σ H λx H1=>∃a,x = .ref a/\(((∃xs,SqL K H1 a xs)/\R (Itl K a) H1)\/((∃xs,SqT K H1 a xs)/\R (Itt K a) H1))
theorem aIm {tg l:Expr}{tl:TE}(hl:PE X l tl):PI X tg l (mS X.K tl):=by
 intro pins s σ H R I h
 refine thn (hl pins s σ H _ I h) λv s1 ⟨x,H1,I1,r1,q1⟩=>?_
 obtain⟨a,e,q⟩:=q1
 subst e
 cases r1
 rcases q with⟨⟨xs,hq⟩,q⟩ | ⟨⟨xs,hq⟩,q⟩
 ·obtain⟨its,rv,p,hz⟩:=I1.list hq
  refine xn p.isList ?_
  refine⟨s1.heap.objs.size,[s1.heap.objs.size],_,_,H1,rfl,I1.kept (t':=s1.toks) λb o e=>ak _ e,aCy a _,⟨_,bg _ rfl,rfl,rfl⟩,λb hb=>?_,q⟩
  have e:b=s1.heap.objs.size:=by simpa using hb
  subst e
  exact I1.fpOk (ay _) (I1.hok.fresh (ay _))
 ·obtain⟨its,rv,p,hz⟩:=I1.tuple hq
  refine wo (show s1.heap.IsTuple a its.toArray from p) ?_
  refine⟨s1.heap.objs.size,[s1.heap.objs.size],_,_,H1,rfl,I1.kept (t':=s1.toks) λb o e=>ak _ e,aAv a _,⟨_,bg _ rfl,rfl,rfl⟩,λb hb=>?_,q⟩
  have e:b=s1.heap.objs.size:=by simpa using hb
  subst e
  exact I1.fpOk (ay _) (I1.hok.fresh (ay _))
end
structure Def (P:Program)(w:World)(K:aa)(mg:Str->Option Value)(base:Heap)(x:Str)(k:Nat)(ps:List Str)(sp:Sp):Prop where
 ex:∃(f:Addr) (fd:FuncData),FnOk P w K mg base CX0 k f fd ps sp/\mg x=some (.ref f)/\o9 K (.ref f)=true/\Binds K fd ps []
theorem Def.mono {P:Program}{w:World}{K:aa}{mg:Str->Option Value}{base:Heap}{x:Str}{j k:Nat}{ps:List Str}{sp:Sp}(D:Def P w K mg base x j ps sp)(h:j<=k):Def P w K mg base x k ps sp:=by
 obtain⟨f,fd,F,r⟩:=D.ex
 exact⟨f,fd,F.mono h,r⟩
theorem aZ {X:Cx}{x:Str}{k:Nat}{ps:List Str}{sp:Sp}{p pos:Pos}{e:Expr}{es:List Expr}{t:TA}(D:Def X.prog X.w X.K X.mg X.base x k ps sp)(hr:Room k X.A)(hg:Gl X x)(ha:PA X (e :: es) t)
  (hdb:(x == ("__debug__" : Str))=false:=by decide) (he:fi (e :: es) X.env=(false,eval e X.env) :: fi es X.env:=by rfl) (hpl:(zc pos (fi es X.env)).any (·.1)=false:=by rfl) :
  PE X (.Call (.Name x p) (e :: es) [] pos) (bI sp [] E0 t):=by
 obtain⟨f,fd,F,hm,hk,hb⟩:=D.ex
 exact aBF F hr hg hm hk hb .nil aJq ha hdb he hpl
def SameX (acc:Addr) (H H':Hp):Prop:=∀b o,b≠acc->H b=some o->H' b=some o
theorem SameX.refl (acc:Addr)(H:Hp):SameX acc H H:=λ_ _ _ h=>h
theorem SameX.trans {acc:Addr}{H H1 H2:Hp}(a:SameX acc H H1)(b:SameX acc H1 H2):SameX acc H H2:=λc o n h=>b c o n (a c o n h)
theorem Same.x {acc:Addr}{H H':Hp}(e:Same H H'):SameX acc H H':=λb o _ h=>e b o h
theorem SameX.put {acc:Addr}{H:Hp}(o:HO):SameX acc H (upd H acc o):=λb u n h=>by rw[aL n];exact h
def Agree (vars:List Nat) (σ σ':St):Prop:=∀k,k∉vars->σ'[k]?=σ[k]?
theorem Agree.refl (vars:List Nat)(σ:St):Agree vars σ σ:=λ_ _=>rfl
theorem Agree.trans {vars:List Nat}{σ σ1 σ2:St}(a:Agree vars σ σ1)(b:Agree vars σ1 σ2):Agree vars σ σ2:=λk h=>(b k h).trans (a k h)
theorem Agree.set {vars:List Nat}{σ:St}{j:Nat}(h:j∈vars)(v:Option V):Agree vars σ (σ.set j v):=λk hk=>gv (λe:j=k=>hk (by rw[<- e];exact h))
theorem eW {σ:St}{j:Nat}{v:Option V}(h:j<σ.length):(σ.set j v)[j]?=some v:=gw h
def Emits (vars:List Nat) (tb:TS) (acc:Addr) (σ:St) (H:Hp) (L:List V):Prop:=
 ∀(D:hU) (pre:List V),H acc=some (.lst pre)->pre.length+L.length<=1000000->(∀σ' H',σ'.length=σ.length->Agree vars σ σ'->SameX acc H H'->H' acc=some (.lst (pre++L))->D.nx σ' H')->tb D σ H
theorem eJ {vars:List Nat}{te:TE}{acc:Addr}{σ:St}{H:Hp}{x:V}(h:∀Q:VK,(∀H',Same H H'->Q x H')->te σ H Q):Emits vars (cP te acc) acc σ H [x]:=by
 intro D pre ha hz hd
 refine h _ λH' e=>⟨pre,e _ _ ha,?_,hd σ _ rfl (Agree.refl _ _) (e.x.trans (SameX.put _)) aD⟩
 exact cw (show pre.length<=1000000 by simp at hz;omega) (by decide)
theorem qP {vars:List Nat}{tc:TT}{tb:TS}{acc:Addr}{σ:St}{H:Hp}{c:Bool}{L:List V}(hne:∀pre,H acc=some (.lst pre)->True)(h:∀Q:Bool->Hp->Prop,(∀H',Same H H'->Q c H')->tc σ H Q)(hb:c=true->∀H',Same H H'->Emits vars tb acc σ H' L) :
  Emits vars (fV [tc] tb) acc σ H (if c=true then L else[]):=by
 intro D pre ha hz hd
 refine h _ λH' e=>?_
 cases c with
 |true=>
  refine aHN (hb rfl H' e D pre (e _ _ ha) hz λσ' H2 hl ag sx h2=>hd σ' H2 hl ag (e.x.trans sx) h2)
 |false=>exact aHa (hd σ H' rfl (Agree.refl _ _) e.x (by rw[if_neg bh,ke];exact e _ _ ha))
theorem aO {α:Type}(f:Nat->List α)(i:Nat):(aw (i+1)).flatMap f=(aw i).flatMap f++f i:=by
 rw[ot,qa]
 simp
theorem bX {α:Type}(f:Nat->List α){i n:Nat}(h:i<=n):((aw i).flatMap f).length<=((aw n).flatMap f).length:=by
 induction h with
 |refl=>exact ay _
 |step _ ih=>rw[aO,ao];omega
theorem gQ {vars:List Nat}{tb:TS}{acc:Addr}{σ:St}{H:Hp}{lo:Int}{n j:Nat}{L:Nat->List V}(hj:j∈vars)(hjl:j<σ.length)
  (h:∀i σ' H',i<n->σ'.length=σ.length->Agree vars σ σ'->σ'[j]?=some (some (.int (lo+(i:Int))))->SameX acc H H'->(∃pre,H' acc=some (.lst pre))->Emits vars tb acc σ' H' (L i)) :
  Emits vars (eK (Itr lo n) (aI j) tb) acc σ H ((aw n).flatMap L):=by
 intro D pre ha hz hd
 refine bP (lo:=lo) (n:=n) (g:=aI j) (D:=D) (λi σ' H'=>i<=n/\σ'.length=σ.length/\Agree vars σ σ'/\SameX acc H H'/\H' acc=some (.lst (pre++(aw i).flatMap L))) ⟨bc _,rfl,Agree.refl _ _,SameX.refl _ _,by simpa using ha⟩ (λi σ1 H1 hi ⟨_,hl1,ag1,sx1,h1⟩=>?_) λσ1 H1 ⟨_,hl1,ag1,sx1,h1⟩=>hd σ1 H1 hl1 ag1 sx1 h1
 have hle:=bX L (show i+1<=n from hi)
 rw[aO,ao] at hle
 have fin:∀σ' H',σ'.length=σ1.length->Agree vars (σ1.set j (some (.int (lo+(i:Int))))) σ'->SameX acc H1 H'->H' acc=some (.lst ((pre++(aw i).flatMap L)++L i)) ->
   (i+1<=n/\σ'.length=σ.length/\Agree vars σ σ'/\SameX acc H H'/\H' acc=some (.lst (pre++(aw (i+1)).flatMap L))):=λσ' H' hl ag sx h2=>
  ⟨hi,hl.trans hl1,(ag1.trans (Agree.set hj _)).trans ag,sx1.trans sx,by rw[h2,aO,iy]⟩
 refine h i (σ1.set j (some (.int (lo+(i:Int))))) H1 hi (by rw[dg];exact hl1) (ag1.trans (Agree.set hj _)) (eW (by omega)) sx1 ⟨_,h1⟩ _ _ h1 (by rw[ao];omega) λσ' H' hl ag sx h2=>fin σ' H' (hl.trans (dg ..)) ag sx h2
theorem uJ {vars:List Nat}{ta:TA}{tb:TS}{acc:Addr}{σ:St}{H:Hp}{n j:Nat}{L:Nat->List V}(hj:j∈vars)(hjl:j<σ.length)(hn:n<=1000000)
  (hta:∀Q:List V->Hp->Prop,(∀H',Same H H'->Q [.int (n:Int)] H')->ta σ H Q)
  (h:∀i σ' H',i<n->σ'.length=σ.length->Agree vars σ σ'->σ'[j]?=some (some (.int (i:Int)))->SameX acc H H'->(∃pre,H' acc=some (.lst pre))->Emits vars tb acc σ' H' (L i)) :
  Emits vars (iQ (cX ta) (aI j) tb) acc σ H ((aw n).flatMap L):=by
 intro D pre ha hz hd
 refine hta _ λH' e=>⟨(n:Int),rfl,by omega,by omega,?_⟩
 rw[cx]
 refine gQ (L:=L) hj hjl (λi σ' H2 hi hl ag hs sx hp=>h i σ' H2 hi hl ag (by rw[hs];simp) (e.x.trans sx) hp) D pre (e _ _ ha) hz λσ' H2 hl ag sx h2=>hd σ' H2 hl ag (e.x.trans sx) h2
theorem aAU {K:aa}{vars:List Nat}{tb:TS}{acc a:Addr}{σ:St}{H:Hp}{xs:List V}{j:Nat}{L:Nat->List V}(hj:j∈vars)(hjl:j<σ.length)(hs:∀H',SameX acc H H'->SqL K H' a xs)
  (h:∀i x σ' H',xs[i]?=some x->σ'.length=σ.length->Agree vars σ σ'->σ'[j]?=some (some x)->SameX acc H H'->(∃pre,H' acc=some (.lst pre))->Emits vars tb acc σ' H' (L i)) :
  Emits vars (eK (Itl K a) (aI j) tb) acc σ H ((aw xs.length).flatMap L):=by
 intro D pre ha hz hd
 refine gS (K:=K) (a:=a) (xs:=xs) (g:=aI j) (D:=D) (λi σ' H'=>i<=xs.length/\σ'.length=σ.length/\Agree vars σ σ'/\SameX acc H H'/\H' acc=some (.lst (pre++(aw i).flatMap L))) ⟨bc _,rfl,Agree.refl _ _,SameX.refl _ _,by simpa using ha⟩ (λi σ1 H1 _ ⟨_,_,_,sx1,_⟩=>hs H1 sx1) (λi x σ1 H1 hx ⟨_,hl1,ag1,sx1,h1⟩=>?_) λσ1 H1 ⟨_,hl1,ag1,sx1,h1⟩=>hd σ1 H1 hl1 ag1 sx1 h1
 have hi:i<xs.length:=(au.mp hx).1
 have hle:=bX L (show i+1<=xs.length from hi)
 rw[aO,ao] at hle
 have fin:∀σ' H',σ'.length=σ1.length->Agree vars (σ1.set j (some x)) σ'->SameX acc H1 H'->H' acc=some (.lst ((pre++(aw i).flatMap L)++L i)) ->
   (i+1<=xs.length/\σ'.length=σ.length/\Agree vars σ σ'/\SameX acc H H'/\H' acc=some (.lst (pre++(aw (i+1)).flatMap L))):=λσ' H' hl ag sx h2=>
  ⟨hi,hl.trans hl1,(ag1.trans (Agree.set hj _)).trans ag,sx1.trans sx,by rw[h2,aO,iy]⟩
 refine h i x (σ1.set j (some x)) H1 hx (by rw[dg];exact hl1) (ag1.trans (Agree.set hj _)) (eW (by omega)) sx1 ⟨_,h1⟩ _ _ h1 (by rw[ao];omega) λσ' H' hl ag sx h2=>fin σ' H' (hl.trans (dg ..)) ag sx h2
theorem aDD {K:aa}{vars:List Nat}{tb:TS}{acc a:Addr}{σ:St}{H:Hp}{xs:List V}{j:Nat}{L:Nat->List V}(hj:j∈vars)(hjl:j<σ.length)(hs:∀H',SameX acc H H'->SqT K H' a xs)
  (h:∀i x σ' H',xs[i]?=some x->σ'.length=σ.length->Agree vars σ σ'->σ'[j]?=some (some x)->SameX acc H H'->(∃pre,H' acc=some (.lst pre))->Emits vars tb acc σ' H' (L i)) :
  Emits vars (eK (Itt K a) (aI j) tb) acc σ H ((aw xs.length).flatMap L):=by
 intro D pre ha hz hd
 refine kA (K:=K) (a:=a) (xs:=xs) (g:=aI j) (D:=D) (λi σ' H'=>i<=xs.length/\σ'.length=σ.length/\Agree vars σ σ'/\SameX acc H H'/\H' acc=some (.lst (pre++(aw i).flatMap L))) ⟨bc _,rfl,Agree.refl _ _,SameX.refl _ _,by simpa using ha⟩ (λi σ1 H1 _ ⟨_,_,_,sx1,_⟩=>hs H1 sx1) (λi x σ1 H1 hx ⟨_,hl1,ag1,sx1,h1⟩=>?_) λσ1 H1 ⟨_,hl1,ag1,sx1,h1⟩=>hd σ1 H1 hl1 ag1 sx1 h1
 have hi:i<xs.length:=(au.mp hx).1
 have hle:=bX L (show i+1<=xs.length from hi)
 rw[aO,ao] at hle
 have fin:∀σ' H',σ'.length=σ1.length->Agree vars (σ1.set j (some x)) σ'->SameX acc H1 H'->H' acc=some (.lst ((pre++(aw i).flatMap L)++L i)) ->
   (i+1<=xs.length/\σ'.length=σ.length/\Agree vars σ σ'/\SameX acc H H'/\H' acc=some (.lst (pre++(aw (i+1)).flatMap L))):=λσ' H' hl ag sx h2=>
  ⟨hi,hl.trans hl1,(ag1.trans (Agree.set hj _)).trans ag,sx1.trans sx,by rw[h2,aO,iy]⟩
 refine h i x (σ1.set j (some x)) H1 hx (by rw[dg];exact hl1) (ag1.trans (Agree.set hj _)) (eW (by omega)) sx1 ⟨_,h1⟩ _ _ h1 (by rw[ao];omega) λσ' H' hl ag sx h2=>fin σ' H' (hl.trans (dg ..)) ag sx h2
theorem cO:ei "len" = some (.builtin "len"):=by decide+kernel
theorem aFe:ei "all" = some (.builtin "all"):=by decide+kernel
theorem pD:ei "min" = some (.builtin "min"):=by decide+kernel
theorem xA:ei "max" = some (.builtin "max"):=by decide+kernel
theorem aEG:ei "sum" = some (.builtin "sum"):=by decide+kernel
theorem gC:ei "isinstance" = some (.builtin "isinstance"):=by decide+kernel
theorem fH:ei "sorted" = some (.builtin "sorted"):=by decide+kernel
theorem cH:ei "tuple" = some (.type "tuple"):=by decide+kernel
theorem nE:ei "list" = some (.type "list"):=by decide+kernel
theorem xG:ei "range" = some (.type "range"):=by decide+kernel
theorem mI:ei "int" = some (.type "int"):=by decide+kernel
theorem aAS:ei "bool" = some (.type "bool"):=by decide+kernel
structure Blt (mg:Str->Option Value):Prop where
 len:mg "len" = none
 all:mg "all" = none
 min:mg "min" = none
 max:mg "max" = none
 sum:mg "sum" = none
 isi:mg "isinstance" = none
 sorted:mg "sorted" = none
 tuple:mg "tuple" = none
 list:mg "list" = none
 range:mg "range" = none
 int:mg "int" = none
 bool:mg "bool" = none
end L2
namespace L2
open PySem
theorem aJI {A:Around}{k:Nat}(hr:Room k A):A.units+100<cLine:=by have:=hr.un;omega
theorem aIQ {A:Around}{k:Nat}(hr:Room k A):A.units+101<cLine:=by have:=hr.un;omega
end L2
namespace L2
open PySem PySem.Spec PyProof.Rows
section
variable {X:Cx}{K:aa}
theorem aM (hK:X.K=K):IxR X (λx y H Q=>aJh K x y H Q\/aJj K x y H Q):=by subst hK;exact aKp
theorem bB (hK:X.K=K):OpR X (km .Add) (bK K):=by subst hK;exact aFx
theorem cY {k:Nat}(hK:X.K=K)(hr:Room k X.A):OpR X (i8 .Eq) (nG K):=by subst hK;exact aHT (aJI hr)
theorem lB {k:Nat}(hK:X.K=K)(hr:Room k X.A):OpR X (i8 .NotEq) (aAc K):=by subst hK;exact aFf (aIQ hr)
theorem tI (hK:X.K=K):OpR X (i8 .NotIn) (rIn K true):=by subst hK;exact uB
theorem eX (hK:X.K=K):CallR X (.builtin "isinstance") (aFh K):=by subst hK;exact aDS
def lZ (K:aa):List V->Hp->VK->Prop:=λxs H Q=>∃p ys,xs=[.ref p]/\(SqL K H p ys\/SqT K H p ys)/\Q (.int ys.length) H
theorem bN (hK:X.K=K):CallR X (.builtin "len") (lZ K):=by subst hK;exact uF
def aJM (K:aa):List V->Hp->VK->Prop:=λvs H Q=>∃(a:Addr) (bs:List Bool),vs=[.ref a]/\Sq K H a (bs.map V.bl)/\Q (.bl (bs.all id)) H
theorem sJ (hK:X.K=K)(hc:X.calm=true):CallR X (.builtin "all") (aJM K):=by subst hK;exact aDs hc
def aKk (K:aa):List V->Hp->VK->Prop:=λvs H Q=>∃(a:Addr) (ns:List Int),vs=[.ref a]/\Sq K H a (ns.map V.int)/\Q (.int ns.sum) H
theorem uO (hK:X.K=K)(hc:X.calm=true):CallR X (.builtin "sum") (aKk K):=by subst hK;exact aDk hc
def aKO (K:aa):List V->Hp->VK->Prop:=λvs H Q=>∃(a:Addr) (ns:List Int),vs=[.ref a]/\Sq K H a (ns.map V.int)/\ns≠[]/\∀m:Int,m∈ns->(∀k∈ns,m<=k)->Q (.int m) H
theorem aCp (hK:X.K=K)(hc:X.calm=true):CallR X (.builtin "min") (aKO K):=by subst hK;exact aDZ hc
def tX:List V->Hp->VK->Prop:=λxs H Q=>∃i j:Int,xs=[.int i, .int j]/\Q (.int (if j<i then j else i)) H
theorem gU (hc:X.calm=true):CallR X (.builtin "min") tX:=aBH hc
def vP:List V->Hp->VK->Prop:=λxs H Q=>∃i j:Int,xs=[.int i, .int j]/\Q (.int (if j > i then j else i)) H
theorem kR (hc:X.calm=true):CallR X (.builtin "max") vP:=aCS hc
def cW (K:aa):List V->Hp->VK->Prop:=λxs H Q=>∃p ys,xs=[.ref p]/\((SqL K H p ys/\∀l,H l=none->Q (.ref l) (upd H l (.tup ys)))\/(SqT K H p ys/\Q (.ref p) H))
theorem bV (hK:X.K=K):CallR X (.type "tuple") (cW K):=by subst hK;exact qI
def tK (K:aa):List V->Hp->VK->Prop:=λvs H Q=>(∃p ys,vs=[.ref p]/\(SqL K H p ys\/SqT K H p ys)/\∀l,H l=none->Q (.ref l) (upd H l (.lst ys))) \/
  ∃(a:Addr) (lo hi:Int),vs=[.ref a]/\H a=some (.rng lo hi)/\(-(2 ^ 62)<=lo/\lo<2 ^ 62/\-(2 ^ 62)<=hi/\hi<2 ^ 62/\hi - lo<=1000000)/\∀p,H p=none->Q (.ref p) (upd H p (.lst ((pW lo hi).map V.int)))
theorem fF (hK:X.K=K)(hc:X.calm=true):CallR X (.type "list") (tK K):=by subst hK;exact pZ hc
theorem cQ {tg l:Expr}{tl:TE}(hK:X.K=K)(hl:PE X l tl):PI X tg l (mS K tl):=by subst hK;exact aIm hl
theorem dD {es:List Expr}{k:Nat}{t:TGs}{n:Nat}{pos:Pos}(hK:X.K=K)(hc:X.calm=true)(h:PGs X es t)(hn:(sv es X.env).length=n:=by rfl)(hst:(sv es X.env).findIdx? (·.1)=none:=by rfl):PG X (.Tuple es k pos) (tD K n t):=by
 subst hK;exact aIu hc h hn hst
end
abbrev yLt:R2:=rI0 λi j => .bl (decide (i<j))
abbrev yGt:R2:=rI0 λi j => .bl (decide (j<i))
abbrev yGe:R2:=rI0 λi j => .bl (decide (j<=i))
abbrev vN:R2:=rI0 λi j => .int (i - j)
abbrev aJZ:R2:=rI aLf λi j => .int (i / j)
abbrev sI:R2:=rI (λ_ j=>0<j) λi j => .int (i % j)
abbrev aKy:R2:=rI aKI λi j => .int (i ^ j.toNat)
abbrev aHb:V->Hp->VK->Prop:=rU λi => .int (-i)
abbrev bO (K:aa):R2:=λx y H Q=>aJh K x y H Q\/aJj K x y H Q
def aKi:List V->Hp->VK->Prop:=λvs H Q=>(∃n:Int,vs=[.int n]/\∀p,H p=none->Q (.ref p) (upd H p (.rng 0 n)))\/∃m n:Int,vs=[.int m, .int n]/\∀p,H p=none->Q (.ref p) (upd H p (.rng m n))
theorem tN {X:Cx}:CallR X (.type "range") aKi:=aDw
end L2
namespace L2
open PySem
def gY (T:List (List Int)):Dt := .tup (T.map λr => .tup (r.map .int))
structure Quad (T:List (List Int))(n:Nat):Prop where
 len:T.length=n
 row:∀r∈T,r.length=n
def at2 (T:List (List Int)) (i j:Nat):Int:=(T.getD i []).getD j 0
section
variable {K:aa}{H:Hp}{T:List (List Int)}{n:Nat}
theorem ShL.rows:∀{T:List (List Int)}{rs:List V},ShL K H (T.map λr=>Dt.tup (r.map Dt.int)) rs->rs.length=T.length/\∀(i:Nat) (row:List Int),T[i]?=some row->∃b,rs[i]?=some (.ref b)/\SqT K H b (row.map V.int)
 |[],rs,h=>by
  have h:rs=[]:=h
  subst h
  exact⟨rfl,λi row e=>by simp at e⟩
 |r :: T,rs,⟨x,rr,h1,⟨b,xs,h2,h3,h4⟩,h5⟩=>by
  obtain⟨e,g⟩:=ShL.rows h5
  subst h1
  refine⟨by rw[bq,bq,e],λi row er=>?_⟩
  cases i with
  |zero=>
   have:r=row:=by simpa using er
   subst this
   exact⟨b,by rw[h2];rfl,by rw[<- ShL.of_ints h4];exact h3⟩
  |succ i=>exact g i row (by simpa using er)
inductive aKV (K:aa) (H:Hp) (T:List (List Int)) (v:V):Prop
 |mk (a:Addr) (rs:List V) (e:v = .ref a) (h:SqT K H a rs) (l:rs.length=T.length) (g:∀(i:Nat) (row:List Int),T[i]?=some row->∃b,rs[i]?=some (.ref b)/\SqT K H b (row.map V.int)):aKV K H T v
theorem Sh.tab {v:V}(h:Sh K H (gY T) v):aKV K H T v:=by
 obtain⟨a,rs,e,hq,hl⟩:=h
 obtain⟨e2,g⟩:=ShL.rows hl
 exact⟨a,rs,e,hq,e2,g⟩
theorem ShL.of_rows:∀{T:List (List Int)}{rs:List V},rs.length=T.length->(∀(i:Nat) (row:List Int),T[i]?=some row->∃b,rs[i]?=some (.ref b)/\SqT K H b (row.map V.int))->ShL K H (T.map λr=>Dt.tup (r.map Dt.int)) rs
 |[],rs,h,_=>qy.mp h
 |r :: T,[],h,_=>by simp at h
 |r :: T,x :: rs,h,g=>by
  obtain⟨b,e,hq⟩:=g 0 r rfl
  have e:x = .ref b:=by simpa using e
  exact⟨x,rs,rfl,⟨b,_,e,hq,ShL.ints r⟩,ShL.of_rows (by simpa using h) λi row er=>by
   obtain⟨c,e2,q2⟩:=g (i+1) row (by simpa using er)
   exact⟨c,by simpa using e2,q2⟩⟩
inductive aKQ (T:List (List Int)) (n i:Nat):Prop
 |mk (row:List Int) (a:T[i]?=some row) (b:row.length=n) (c:T.getD i []=row):aKQ T n i
theorem Quad.get (q:Quad T n){i:Nat}(h:i<n):aKQ T n i:=by
 have hi:i<T.length:=by rw[q.len];exact h
 refine⟨T[i],ah hi,q.row _ (dz hi),?_⟩
 rw[aj,ah hi];rfl
theorem fQ {xs:List Int}{j:Nat}(h:j<xs.length):xs[j]?=some (xs.getD j 0):=by
 rw[aj,ah h];rfl
theorem ixT {p:Addr}{xs:List V}{j:Nat}{v:V}{Q:VK}(h:SqT K H p xs)(hj:xs[j]?=some v)(q:Q v H):bO K (.ref p) (.int (j:Int)) H Q := .inr ⟨p,xs,j,v,rfl,rfl,h,aBT hj,q⟩
theorem ixL {p:Addr}{xs:List V}{j:Nat}{v:V}{Q:VK}(h:SqL K H p xs)(hj:xs[j]?=some v)(q:Q v H):bO K (.ref p) (.int (j:Int)) H Q := .inl ⟨p,xs,j,v,rfl,rfl,h,aBT hj,q⟩
theorem rA {v:V}{i:Nat}{Q:VK}(hS:Sh K H (gY T) v)(hq:Quad T n)(hi:i<n)(q:∀b,SqT K H b ((T.getD i []).map V.int)->Q (.ref b) H):bO K v (.int (i:Int)) H Q:=by
 obtain⟨a,rs,rfl,ha,hl,g⟩:=hS.tab
 obtain⟨row,e1,e2,e3⟩:=hq.get hi
 obtain⟨b,hb,hs⟩:=g i row e1
 exact ixT ha hb (q b (by rw[e3];exact hs))
theorem dL {σ:St}{t si sj:Nat}{v:V}{i j:Nat}{Q:VK}(ht:σ[t]?=some (some v))(hi:σ[si]?=some (some (.int (i:Int))))(hj:σ[sj]?=some (some (.int (j:Int))))(hS:Sh K H (gY T) v)(hq:Quad T n)(li:i<n)(lj:j<n)
  (q:Q (.int (at2 T i j)) H):tOp (bO K) (tOp (bO K) (aF t) (aF si)) (aF sj) σ H Q:=by
 refine⟨_,ht,_,hi,rA hS hq li λb hb=>⟨_,hj,ixT hb ?_ q⟩⟩
 obtain⟨row,e1,e2,e3⟩:=hq.get li
 rw[az,fQ (by rw[e3];omega)]
 rfl
end
theorem bR {acc:Addr}{H H2:Hp}{o:HO}(hacc:H acc=none)(sx:SameX acc (upd H acc o) H2):Same H H2:=λb u e=>sx b u (aK e hacc) (by rw[aL (aK e hacc)];exact e)
theorem Emits.mono {vars vars':List Nat}{tb:TS}{acc:Addr}{σ:St}{H:Hp}{L:List V}(h:Emits vars tb acc σ H L)(hs:∀k∈vars,k∈vars'):Emits vars' tb acc σ H L:=
 λD pre ha hz hd=>h D pre ha hz λσ' H' hl ag sx h2=>hd σ' H' hl (λk hk=>ag k λz=>hk (hs k z)) sx h2
theorem Emits.cast {vars:List Nat}{tb:TS}{acc:Addr}{σ:St}{H:Hp}{L L':List V}(h:Emits vars tb acc σ H L)(e:L=L'):Emits vars tb acc σ H L':=e ▸ h
theorem cT (vars:List Nat)(L:List V){g:TG}{J:It}{tb:TS}{acc:Addr}{σ:St}{H:Hp}{D:hU}(ha:H acc=none)(hz:L.length<=1000000)(h:Emits vars (eK J g tb) acc σ (upd H acc (.lst [])) L)
  (q:∀σ' H',Same H H'->H' acc=some (.lst L)->D.nx σ' H'):eK J g tb D σ (upd H acc (.lst [])):=
 h _ [] aD (by simpa using hz) λσ' H' _ _ sx h2=>q σ' H' (bR ha sx) (by simpa using h2)
theorem bY {α:Type}(f:Nat->List α)(c:Nat):∀n,(∀i,i<n->(f i).length<=c)->((aw n).flatMap f).length<=n*c
 |0,_=>by simp
 |n+1,h=>by
  rw[aO,ao,Nat.add_mul,Nat.one_mul]
  have:=bY f c n λi hi=>h i (by omega)
  have:=h n (by omega)
  omega
theorem kZ {α β:Type}(g:α->β)(f:Nat->List α)(l:List Nat):(l.flatMap f).map g=l.flatMap λi=>(f i).map g:=by
 induction l with
 |nil=>rfl
 |cons x r ih=>rw[gu,bu,ih,gu]
theorem fR {α:Type}(p:α->Bool)(f:Nat->List α)(l:List Nat):(l.flatMap f).all p=l.all λi=>(f i).all p:=by
 induction l with
 |nil=>rfl
 |cons x r ih=>rw[gu,List.all_append,ih,qt]
section
variable {vars:List Nat}{tb:TS}{acc a:Addr}{σ:St}{H:Hp}{j:Nat}{D:hU}{K:aa}
theorem nM {lo:Int}{n:Nat}(R:Nat->List V->Hp->Prop)(hj:j∈vars)(hjl:j<σ.length)(h0:R 0 [] (upd H acc (.lst [])))(ha:H acc=none)
  (h:∀i σ' H' L (D:hU),i<n->σ'.length=σ.length->Agree vars σ σ'->σ'[j]?=some (some (.int (lo+(i:Int))))->Same H H'->H' acc=some (.lst L)->R i L H' ->
   (∀σ'' H'' L',σ''.length=σ.length->Agree vars σ σ''->Same H H''->H'' acc=some (.lst L')->R (i+1) L' H''->D.nx σ'' H'')->tb D σ' H')
  (q:∀σ' H' L,Same H H'->H' acc=some (.lst L)->R n L H'->D.nx σ' H'):eK (Itr lo n) (aI j) tb D σ (upd H acc (.lst [])):=by
 refine bP (lo:=lo) (n:=n) (g:=aI j) (D:=D) (λi σ' H'=>i<=n/\σ'.length=σ.length/\Agree vars σ σ'/\Same H H'/\∃L,H' acc=some (.lst L)/\R i L H') ⟨bc _,rfl,Agree.refl _ _,aG ha _,[],aD,h0⟩ (λi σ1 H1 hi ⟨_,hl1,ag1,sx1,L,h1,r1⟩=>?_) λσ1 H1 ⟨_,_,_,sm,L,h1,r1⟩=>q σ1 H1 L sm h1 r1
 exact h i (σ1.set j (some (.int (lo+(i:Int))))) H1 L _ hi (by rw[dg];exact hl1) (ag1.trans (Agree.set hj _)) (eW (by omega)) sx1 h1 r1 λσ2 H2 L' hl2 ag2 sm2 h2 r2=>⟨hi,hl2,ag2,sm2,L',h2,r2⟩
theorem yH {xs:List V}(R:Nat->List V->Hp->Prop)(hj:j∈vars)(hjl:j<σ.length)(h0:R 0 [] (upd H acc (.lst [])))(ha:H acc=none)(hs:∀i L H',Same H H'->R i L H'->SqL K H' a xs)
  (h:∀i x σ' H' L (D:hU),xs[i]?=some x->σ'.length=σ.length->Agree vars σ σ'->σ'[j]?=some (some x)->Same H H'->H' acc=some (.lst L)->R i L H' ->
   (∀σ'' H'' L',σ''.length=σ.length->Agree vars σ σ''->Same H H''->H'' acc=some (.lst L')->R (i+1) L' H''->D.nx σ'' H'')->tb D σ' H')
  (q:∀σ' H' L,Same H H'->H' acc=some (.lst L)->R xs.length L H'->D.nx σ' H'):eK (Itl K a) (aI j) tb D σ (upd H acc (.lst [])):=by
 refine gS (K:=K) (a:=a) (xs:=xs) (g:=aI j) (D:=D) (λi σ' H'=>i<=xs.length/\σ'.length=σ.length/\Agree vars σ σ'/\Same H H'/\∃L,H' acc=some (.lst L)/\R i L H') ⟨bc _,rfl,Agree.refl _ _,aG ha _,[],aD,h0⟩ (λi σ1 H1 _ ⟨_,_,_,sm,L,_,r1⟩=>hs i L H1 sm r1) (λi x σ1 H1 hx ⟨_,hl1,ag1,sx1,L,h1,r1⟩=>?_) λσ1 H1 ⟨_,_,_,sm,L,h1,r1⟩=>q σ1 H1 L sm h1 r1
 have hi:i<xs.length:=(au.mp hx).1
 exact h i x (σ1.set j (some x)) H1 L _ hx (by rw[dg];exact hl1) (ag1.trans (Agree.set hj _)) (eW (by omega)) sx1 h1 r1 λσ2 H2 L' hl2 ag2 sm2 h2 r2=>⟨hi,hl2,ag2,sm2,L',h2,r2⟩
theorem aCY {xs:List V}(R:Nat->List V->Hp->Prop)(hj:j∈vars)(hjl:j<σ.length)(h0:R 0 [] (upd H acc (.lst [])))(ha:H acc=none)(hs:SqT K H a xs)
  (h:∀i x σ' H' L (D:hU),xs[i]?=some x->σ'.length=σ.length->Agree vars σ σ'->σ'[j]?=some (some x)->Same H H'->H' acc=some (.lst L)->R i L H' ->
   (∀σ'' H'' L',σ''.length=σ.length->Agree vars σ σ''->Same H H''->H'' acc=some (.lst L')->R (i+1) L' H''->D.nx σ'' H'')->tb D σ' H')
  (q:∀σ' H' L,Same H H'->H' acc=some (.lst L)->R xs.length L H'->D.nx σ' H'):eK (Itt K a) (aI j) tb D σ (upd H acc (.lst [])):=by
 refine kA (K:=K) (a:=a) (xs:=xs) (g:=aI j) (D:=D) (λi σ' H'=>i<=xs.length/\σ'.length=σ.length/\Agree vars σ σ'/\Same H H'/\∃L,H' acc=some (.lst L)/\R i L H') ⟨bc _,rfl,Agree.refl _ _,aG ha _,[],aD,h0⟩ (λi σ1 H1 _ ⟨_,_,_,sm,L,_,r1⟩=>sm.tup hs) (λi x σ1 H1 hx ⟨_,hl1,ag1,sx1,L,h1,r1⟩=>?_) λσ1 H1 ⟨_,_,_,sm,L,h1,r1⟩=>q σ1 H1 L sm h1 r1
 have hi:i<xs.length:=(au.mp hx).1
 exact h i x (σ1.set j (some x)) H1 L _ hx (by rw[dg];exact hl1) (ag1.trans (Agree.set hj _)) (eW (by omega)) sx1 h1 r1 λσ2 H2 L' hl2 ag2 sm2 h2 r2=>⟨hi,hl2,ag2,sm2,L',h2,r2⟩
end
structure Mat (H:Hp)(F:Addr)(ls:List Addr)(M:List (List Int)):Prop where
 top:H F=some (.lst (ls.map V.ref))
 len:ls.length=M.length
 row:∀(i:Nat) (l:Addr) (r:List Int),ls[i]?=some l->M[i]?=some r->H l=some (.lst (r.map V.int))
 nd:ls.Nodup
 out:F∉ls
theorem Mat.same {H H':Hp}{F:Addr}{ls:List Addr}{M:List (List Int)}(m:Mat H F ls M)(e:Same H H'):Mat H' F ls M:=⟨e _ _ m.top,m.len,λi l r a b=>e _ _ (m.row i l r a b),m.nd,m.out⟩
theorem Mat.keep {H H':Hp}{F:Addr}{ls:List Addr}{M:List (List Int)}(m:Mat H F ls M)(e:∀b o,(b=F\/b∈ls)->H b=some o->H' b=some o):Mat H' F ls M:=
 ⟨e _ _ (.inl rfl) m.top,m.len,λi l r a b=>e _ _ (.inr (cb a)) (m.row i l r a b),m.nd,m.out⟩
def vD (M:List (List Int)) (i j:Nat) (v:Int):List (List Int):=M.set i ((M.getD i []).set j v)
theorem gG {M:List (List Int)}{n i j:Nat}{v:Int}(q:Quad M n)(hi:i<n):Quad (vD M i j v) n:=by
 refine⟨by unfold vD;rw[dg];exact q.len,λr hr=>?_⟩
 unfold vD at hr
 rcases List.mem_or_eq_of_mem_set hr with h | h
 ·exact q.row r h
 ·obtain⟨row,e1,e2,e3⟩:=q.get hi
  rw[h,dg,e3];exact e2
theorem eD {M:List (List Int)}{n i j:Nat}{v:Int}(q:Quad M n)(hi:i<n)(hj:j<n)(a b:Nat):at2 (vD M i j v) a b=if a=i/\b=j then v else at2 M a b:=by
 obtain⟨row,e1,e2,e3⟩:=q.get hi
 unfold at2 vD
 by_cases ha:a=i
 ·subst ha
  have:(M.set a ((M.getD a []).set j v)).getD a []=(M.getD a []).set j v:=by
   rw[aj,gw (by rw[q.len];exact hi)];rfl
  rw[this,e3]
  by_cases hb:b=j
  ·subst hb
   rw[if_pos ⟨rfl,rfl⟩,aj,gw (by omega)];rfl
  ·rw[if_neg (λz=>hb z.2),aj,gv (jh hb),<- aj]
 ·have:(M.set i ((M.getD i []).set j v)).getD a []=M.getD a []:=by
   rw[aj,gv (jh ha),<- aj]
  rw[this,if_neg (λz=>ha z.1)]
theorem Mat.at {K:aa}{H:Hp}{F:Addr}{ls:List Addr}{M:List (List Int)}{n i:Nat}(m:Mat H F ls M)(q:Quad M n)(hi:i<n):∃l,ls[i]?=some l/\(ls.map V.ref)[i]?=some (.ref l)/\H l=some (.lst ((M.getD i []).map V.int)):=by
 obtain⟨row,e1,e2,e3⟩:=q.get hi
 have hl:i<ls.length:=by rw[m.len,q.len];exact hi
 refine⟨ls[i],ah hl,by rw[az,ah hl];rfl,?_⟩
 rw[e3]
 exact m.row i _ row (ah hl) e1
theorem Mat.put {H:Hp}{F:Addr}{ls:List Addr}{M:List (List Int)}{n i j:Nat}{v:Int}{l:Addr}(m:Mat H F ls M)(q:Quad M n)(hi:i<n)(hl:ls[i]?=some l):Mat (upd H l (.lst (((M.getD i []).set j v).map V.int))) F ls (vD M i j v):=by
 have hm:l∈ls:=cb hl
 have hF:F≠l:=λe=>m.out (e ▸ hm)
 refine⟨by rw[aL hF];exact m.top,by unfold vD;rw[dg];exact m.len,λa b r h1 h2=>?_,m.nd,m.out⟩
 by_cases ha:a=i
 ·subst ha
  rw[hl] at h1
  cases h1
  rw[aD]
  unfold vD at h2
  rw[gw (by rw[q.len];exact hi)] at h2
  cases h2
  rfl
 ·have hne:b≠l:=by
   intro e
   subst e
   obtain⟨i1,z1⟩:=au.mp h1
   obtain⟨i2,z2⟩:=au.mp hl
   exact ha ((ym m.nd).mp (z1.trans z2.symm))
  rw[aL hne]
  unfold vD at h2
  rw[gv (jh ha)] at h2
  exact m.row a b r h1 h2
theorem pI {K:aa}{H:Hp}{F:Addr}{ls:List Addr}{M:List (List Int)}{n i j t si sj:Nat}{σ:St}{Q:VK}(m:Mat H F ls M)(q:Quad M n)(ht:σ[t]?=some (some (.ref F)))(hi:σ[si]?=some (some (.int (i:Int))))(hj:σ[sj]?=some (some (.int (j:Int))))(li:i<n)(lj:j<n)
  (h:Q (.int (at2 M i j)) H):tOp (bO K) (tOp (bO K) (aF t) (aF si)) (aF sj) σ H Q:=by
 obtain⟨l,h1,h2,h3⟩:=m.at (K:=K) q li
 refine⟨_,ht,_,hi,ixL (.of m.top) h2 ⟨_,hj,ixL (.of h3) ?_ h⟩⟩
 obtain⟨row,e1,e2,e3⟩:=q.get li
 rw[az,fQ (by rw[e3];omega)]
 rfl
theorem rC {K:aa}{H:Hp}{F:Addr}{ls:List Addr}{M:List (List Int)}{n i j t si sj:Nat}{σ:St}{v:Int}{N:St->Hp->Prop}(m:Mat H F ls M)(q:Quad M n)(ht:σ[t]?=some (some (.ref F)))(hi:σ[si]?=some (some (.int (i:Int))))(hj:σ[sj]?=some (some (.int (j:Int))))(li:i<n)(lj:j<n)
  (h:∀l H',l∈ls->H'=upd H l (.lst (((M.getD i []).set j v).map V.int))->Mat H' F ls (vD M i j v)->N σ H'):sF (tOp (bO K) (aF t) (aF si)) (aF sj) fY (.int v) σ H N:=by
 obtain⟨l,h1,h2,h3⟩:=m.at (K:=K) q li
 obtain⟨row,e1,e2,e3⟩:=q.get li
 refine⟨_,ht,_,hi,ixL (.of m.top) h2 ⟨_,hj,l,_,(j:Int),j,rfl,rfl,h3,?_,?_⟩⟩
 rotate_left
 ·rw[<- List.map_set]
  exact h l _ (cb h1) rfl (m.put q li h1)
 rw[ai,e3,e2]
 unfold ixN
 rw[if_pos (by omega),if_pos (by omega),cx]
theorem mV {K:aa}{σ:St}{H:Hp}{t n:Nat}{F:Addr}{ls:List Addr}{M:List (List Int)}{Q:VK}(ht:σ[t]?=some (some (.ref F)))(m:Mat H F ls M)(q:Quad M n)(hn:n<=100)(h:∀p H',Same H H'->Sh K H' (gY M) (.ref p)->Q (.ref p) H') :
  tCB (cW K) (aC (cU [none] (mS K (aF t)) (aI 0) [] λacc=>cP (tCB (cW K) (aC (aF 0) aR)) acc) aR) σ H Q:=by
 refine⟨_,ht,F,rfl, .inl ⟨⟨_, .of m.top⟩,λacc hacc=>?_⟩⟩
 have hlen:(ls.map V.ref).length=n:=by rw[ai,m.len,q.len]
 refine yH (vars:=[0]) (K:=K) (a:=F) (xs:=ls.map V.ref) (λi L H'=>L.length=i/\∀(j:Nat) (row:List Int),j<i->M[j]?=some row->∃b,L[j]?=some (.ref b)/\H' b=some (.tup (row.map V.int))) (by decide) (by show 0<1;decide) ⟨rfl,λj row hj=>absurd hj (zo _)⟩ hacc (λi L H' sm _ => .of (sm _ _ m.top)) (λi x σ1 H1 L D hx l1 ag1 s1 sm1 ha1 ⟨r1,r2⟩ hD=>?_) λσ1 H1 L sm1 ha1 ⟨r1,r2⟩=>?_
 ·have hi:i<n:=by rw[<- hlen];exact(au.mp hx).1
  have hil:i<ls.length:=by rw[m.len,q.len];exact hi
  obtain⟨row,e1,e2,e3⟩:=q.get hi
  have ex:x = .ref ls[i]:=by
   rw[az,ah hil] at hx
   simpa using hx.symm
  subst ex
  have hrow:=m.row i _ row (ah hil) e1
  refine⟨_,s1,ls[i],row.map V.int,rfl, .inl ⟨.of (sm1 _ _ hrow),λp hp=>?_⟩⟩
  have hpa:p≠acc:=λe=>by rw[e,ha1] at hp;cases hp
  refine⟨L,by rw[aL (jh hpa)];exact ha1,cw (show L.length<=100 by omega) (by decide),?_⟩
  refine hD σ1 _ (L++[.ref p]) l1 ag1 (λb o e=>?_) aD ⟨by rw[ao,r1];rfl,λj row' hj e=>?_⟩
  ·have hb:b≠acc:=aK e hacc
   rw[aL hb,aL (aK (sm1 _ _ e) hp)]
   exact sm1 _ _ e
  ·by_cases hji:j<i
   ·obtain⟨b,g1,g2⟩:=r2 j row' hji e
    refine⟨b,by rw[cm (by omega)];exact g1,?_⟩
    have hb:b≠acc:=ne_of g2 ha1 (λz=>nomatch z)
    rw[aL hb,aL (aK g2 hp)]
    exact g2
   ·have:j=i:=by omega
    subst this
    rw[e1] at e
    cases e
    refine⟨p,by rw[dh (by omega),r1];simp,?_⟩
    rw[aL hpa]
    exact aD
 ·refine⟨acc,L,rfl, .inl ⟨.of ha1,λp hp=>?_⟩⟩
  have sm2:Same H (upd H1 p (.tup L)):=sm1.trans (aG hp _)
  refine h p _ sm2 ⟨p,L,rfl, .of aD,ShL.of_rows (by rw[r1,hlen,q.len]) λi row e=>?_⟩
  have hi:i<n:=by rw[<- q.len];exact(au.mp e).1
  obtain⟨b,g1,g2⟩:=r2 i row (by omega) e
  exact⟨b,g1, .of (by rw[aL (aK g2 hp)];exact g2)⟩
section
variable {K:aa}{H:Hp}
end
theorem aDW {xs:List V}{t:Nat}(h:t<=xs.length):rF xs (some (t:Int)) none=xs.drop t:=by
 unfold rF HT.sIx
 simp only[cx]
 rw[if_neg (by omega),zp h,jr (by rw[k6];omega)]
theorem aDm (ns:List Int)(lo hi:Option Int):∃ms:List Int,rF (ns.map V.int) lo hi=ms.map V.int/\ms.length<=ns.length:=by
 refine⟨(ns.drop (HT.sIx ns.length 0 lo)).take (HT.sIx ns.length ns.length hi - HT.sIx ns.length 0 lo),?_,?_⟩
 ·unfold rF
  rw[ai,AX,List.map_drop]
 ·rw[fg,k6];omega
end L2
namespace L2
open PySem PySem.Spec PyProof.Rows
section
variable {X:Cx}
theorem kD {prog:Program}{w:World}{A:Around}{E:Value->Shared->Prop}{s:Shared}{t sl:Addr}{items:Array Value}{vl vu:Value}{lo hi:Option Int}{Q:Value->Shared->Prop}(ht:IsTup s.heap t items)(hs:s.heap.IsSliceOf sl vl vu .none)(pl:IsPart vl lo)(pu:IsPart vu hi)
  (hw:HT.sIx items.size 0 lo=0/\HT.sIx items.size items.size hi=items.size) (h:Q (.ref t) s):wpAny (model prog w) A (yd (.ref t) (.ref sl)) Q E s:=by
 obtain⟨os,hos,hcs,hds⟩:=id hs
 have hTs:s.TypeIs (.ref sl) "slice":=⟨os,hos,hcs⟩
 unfold yd
 try with_reducible refine ef ?_
 first | refine af (aq ?_) | skip
 refine af (wpAny_sequenceKey ht.typeIs (by decide) ?_)
 refine af (gi (name:=oi "__getitem__") ht.typeIs f7
  (fc f7 ht.typeIs AD ?_ (args_tuple_getitem _ _)))
 show wpAny _ _ (o6 (.ref t) >>= _) _ _ s
 refine af (tupleItemsOf_ ht ?_)
 refine af (zi hTs ?_)
 rw[if_pos (by decide)]
 refine af (HT.sliceApplied_gen hs pl pu ?_)
 rw[hw.1,hw.2]
 have hyes:((((0:Nat):Int) == 0 && (1:Int) == 1 && (items.size - 0) == items.size)=true):=by simp
 show wpAny _ _ (if(((0:Nat):Int) == 0 && (1:Int) == 1 && (items.size - 0) == items.size)=true then _ else _) _ _ s
 rw[if_pos hyes]
 unfold Builtin.Tuple.tupleIsExact
 refine af (af (zi ht.typeIs (aq ?_)))
 rw[if_pos (show(Value.type "tuple" == Value.type "tuple")=true by rfl)]
 exact af (tf (aq ⟨_,rfl,aq h⟩))
def aLa (K:aa):V->Option Int->Option Int->Hp->VK->Prop:=λx lo hi H Q=>∃a xs,x = .ref a/\SqT K H a xs/\∀p H',Same H H'->SqT K H' p (rF xs lo hi)->Q (.ref p) H'
theorem aGl:SlR X (aLa X.K):=by
 intro pins s σ H x v vl vu lo hi sl Q I rx hs pl pu h
 obtain⟨a,xs,rfl,hx,q⟩:=h
 by_cases hw:HT.sIx xs.length 0 lo=0/\HT.sIx xs.length xs.length hi=xs.length
 ·obtain rfl:v=Value.ref a:=rx
  obtain⟨its,rv,p,hz⟩:=I.tuple hx
  have hl:=rv.length
  have ec:rF xs lo hi=xs:=by unfold rF;rw[hw.1,hw.2,Au,Bi,k7]
  refine⟨"tuple",_,f7.lookup,p.typeIs,?_⟩
  refine kD p hs pl pu (by simp only[av,<- hl];exact hw) ?_
  exact⟨.ref a,H,I,rfl,q a H (Same.refl H) (by rw[ec];exact hx)⟩
 ·exact aHF (X:=X) pins s σ H (.ref a) v vl vu lo hi sl Q I rx hs pl pu ⟨a,xs,rfl,hx,hw,λp hp=>q p _ (aG hp _) (.of aD)⟩
abbrev aHe (K:aa):V->Option Int->Option Int->Hp->VK->Prop:=λx lo hi H Q=>aKz K x lo hi H Q\/aLa K x lo hi H Q
theorem aCJ {K:aa}(hK:X.K=K):SlR X (aHe K):=by subst hK;exact aGp.or aGl
end
section
variable {prog:Program}{w:World}{A:Around}{E:Value->Shared->Prop}{s:Shared}
theorem jZ {l:Addr}{ob:Obj}{n:Nat}{T:String}{us:List Value}{Q:List Value->Shared->Prop}(e0:s.heap.get? l=some ob)(ec:ob.cls = .type T)(eT:T="list"\/T="tuple")(ed:ob.data = .seq us.toArray n)
  (q:Q us { s with heap:=(s.heap.push (jo "list" #[] 0)).update s.heap.objs.size (fv (· ++ us.toArray)) }) (z:us.length<=ba):wpAny (model prog w) A (collect (.ref l)) Q E s:=by
 unfold collect
 refine af (wpAny_runValue (jy entry_proto_collect' ?g1))
 case g1=>
  show wpAny _ _ (do again (.builtin "list.__iadd__" ⟨[<- newList [],Value.ref l],[]⟩)) _ _ s
  refine af (qz (aq ⟨Code.quiet_builtin _ (by decide+kernel),jy entry_list_iadd' ?g2⟩))
  case g2=>
   have e1:(s.heap.push (jo "list" #[] 0)).get? l=some ob:=ak _ e0
   show wpAny _ _ (vn (Value.ref s.heap.objs.size) (Value.ref l) (Value.ref s.heap.objs.size)) _ _ { s with heap:=s.heap.push (jo "list" #[] 0) }
   unfold vn
   refine af (zi (T:=T) ⟨ob,e1,ec⟩ ?g3)
   case g3=>
    have ht:((Value.type T == Value.type "list") || (Value.type T == Value.type "tuple"))=true:=by rcases eT with rfl | rfl <;> rfl
    rw[if_pos (by first | exact ht | (rcases eT with rfl | rfl <;> simp))]
    refine af (zq e1 ed (af (zq (xs:=#[]) (n:=0) (bg _ rfl) rfl ?g4)))
    case g4=>
     rw[if_neg (by simp)]
     refine af (u6 (xs:=#[]) (n:=0) (bg _ rfl) rfl ?g5 (bc _) (by show(#[]++us.toArray).size<=ba+1;simp only[Array.size_append,av,qw];omega))
     case g5=>
      refine aq ?g6
      case g6=>
       show wpAny (model prog w) A (load s.heap.objs.size >>= λo=>match o.data with | .seq xs _=>pure xs.toList | _=>unsupported "internal:collect") Q E { s with heap:=(s.heap.push (jo "list" #[] 0)).update s.heap.objs.size (fv (· ++ us.toArray)) }
       refine af (wpAny_load (zr (bg _ rfl) _) ?g7)
       case g7=>
        show wpAny _ _ (pure ((#[]:Array Value)++us.toArray).toList) Q E _
        rw[show((#[]:Array Value)++us.toArray).toList=us by simp]
        exact aq q
theorem aBI {l:Addr}{ob:Obj}{n:Nat}{T:String}{us:List Value}{ks:List Int}{Q:Value->Shared->Prop}(e0:s.heap.get? l=some ob)(ec:ob.cls = .type T)(eT:T="list"\/T="tuple")(ed:ob.data = .seq us.toArray n)(hI:IntsAre us ks)(h64:us.length<64)
  (q:∀(out:Array Value) (ns':List Int),IntsAre out.toList ns'->ns'.Perm ks->ns'.Pairwise (·<=·)->Q (.ref (s.heap.objs.size+1)) { s with heap:=AY s.heap us out }):wpAny (model prog w) A (call (.builtin "sorted") [.ref l]) Q E s:=by
 refine pf Bw Bj Bk (Bl _) ?g1
 case g1=>
  unfold yp
  refine af (m:=checkCount "sorted" 1 1 _) (aq (af (jZ e0 ec eT ed ?g2 (cg (la h64) (by decide)))))
  case g2=>
   refine af (qz ?g3)
   case g3=>
    have z1:((s.heap.push (jo "list" #[] 0)).update s.heap.objs.size (fv (· ++ us.toArray))).objs.size=s.heap.objs.size+1:=by rw[yq,size_push']
    have e2:(((s.heap.push (jo "list" #[] 0)).update s.heap.objs.size (fv (· ++ us.toArray))).push (jo "list" us.toArray 0)).get? (s.heap.objs.size+1)=some (jo "list" us.toArray 0):=by rw[<- z1];exact bg _ rfl
    show wpAny _ _ _ _ _ { s with heap:=((s.heap.push (jo "list" #[] 0)).update s.heap.objs.size (fv (· ++ us.toArray))).push (jo "list" us.toArray 0) }
    rw[z1]
    refine af (ef (fc Av ⟨_,e2,rfl⟩ zu (list_sort_tree e2 hI h64 λout ns' a1 a2 a3=>⟨_,rfl,aq ⟨_,rfl,q out ns' a1 a2 a3⟩⟩) (Aw _)))
end
theorem lK:∀{ns:List Int}{us:List Value},IntsAre us ns->Vals (ns.map V.int) us
 |[],_,h=>by cases h;exact .nil
 |n :: ns,_,h=>by
  cases h with
  |cons _ t h=>exact .cons ⟨t,rfl⟩ (lK h)
theorem IntsAre.len:∀{ns:List Int}{us:List Value},IntsAre us ns->us.length=ns.length
 |[],_,h=>by cases h;rfl
 |n :: ns,_,h=>by
  cases h with
  |cons _ t h=>rw[bq,bq,IntsAre.len h]
def kP (K:aa):List V->Hp->VK->Prop:=λvs H Q=>∃(a:Addr) (ns:List Int),vs=[.ref a]/\Sq K H a (ns.map V.int)/\ns.length<64 /\
 ∀ms:List Int,ms.Perm ns->ms.Pairwise (·<=·)->∀l,H l=none->Q (.ref l) (upd H l (.lst (ms.map V.int)))
theorem wE {X:Cx}:CallR X (.builtin "sorted") (kP X.K):=by
 intro pins s σ H xs us Q I r ⟨a,ns,e,hq,h64,q⟩
 subst e
 obtain⟨u,rfl,ru⟩:=nQ r
 obtain rfl:u=Value.ref a:=ru
 have go:∀(its:List Value) (ob:Obj) (n:Nat) (T:String),Vals (ns.map V.int) its->s.heap.get? a=some ob->ob.cls = .type T->(T="list"\/T="tuple")->ob.data = .seq its.toArray n->wpAny (model X.prog X.w) X.A (call (.builtin "sorted") [.ref a]) (EP X pins σ Q) X.xe s:=by
  intro its ob n T rv e0 ec eT ed
  have hi:=dE rv
  refine aBI e0 ec eT ed hi (by rw[IntsAre.len hi];exact h64) λout ns' a1 a2 a3=>?_
  obtain⟨c,he⟩:=Bm s.heap its out
  refine⟨.ref (s.heap.objs.size+1),_,I.laid (t':=s.toks) (o := .lst (ns'.map V.int)) (λb ob q=>AZ q) (om _) ?_,rfl,q ns' a2 a3 _ (I.hok.fresh (om _))⟩
  refine⟨?_,out.toList,c,lK a1,he⟩
  rw[ai,a2.length_eq]
  exact cg (la h64) (by decide)
 rcases hq with hq | hq
 ·obtain⟨its,rv,pl,hz⟩:=I.list hq
  obtain⟨o,ho,hc,n,hd⟩:=pl.isList
  exact go its o n "list" rv ho hc (.inl rfl) hd
 ·obtain⟨its,rv,pl,hz⟩:=I.tuple hq
  obtain⟨o,ho,hc,n,hd⟩:=pl
  exact go its o n "tuple" rv ho hc (.inr rfl) hd
theorem eN {X:Cx}{K:aa}(hK:X.K=K):CallR X (.builtin "sorted") (kP K):=by subst hK;exact wE
mutual
def toP:Dt->PyData
 | .non => .none
 | .bl b => .bool b
 | .int i => .int i
 | .str x => .str x
 | .tup ds => .tuple (aAH ds)
 | .lst ds => .list (aAH ds)
def aAH:List Dt->List PyData
 |[]=>[]
 |d :: ds=>toP d :: aAH ds
end
mutual
theorem aGS:∀d,(toP d).depth=dep d
 | .non=>rfl
 | .bl b=>rfl
 | .int i=>rfl
 | .str x=>rfl
 | .tup ds=>by show(PyData.tuple (aAH ds)).depth=_;unfold PyData.depth dep;rw[qA]
 | .lst ds=>by show(PyData.list (aAH ds)).depth=_;unfold PyData.depth dep;rw[qA]
theorem qA:∀ds,zv (aAH ds)=oI ds
 |[]=>by unfold aAH oI zv;rfl
 |d :: ds=>by unfold aAH oI zv;rw[aGS,qA]
end
mutual
theorem aAm:∀d,(toP d).hasDict=false
 | .non=>by unfold toP pg;rfl
 | .bl b=>by unfold toP pg;rfl
 | .int i=>by unfold toP pg;rfl
 | .str x=>by unfold toP pg;rfl
 | .tup ds=>by unfold toP pg;exact iO ds
 | .lst ds=>by unfold toP pg;exact iO ds
theorem iO:∀ds,xo (aAH ds)=false
 |[]=>by unfold aAH xo;rfl
 |d :: ds=>by unfold aAH xo;rw[aAm,iO];rfl
end
section
variable {X:Cx}{pins:List (Addr×Obj)}{σ:St}{H:Hp}{s:Shared}
mutual
theorem Inv.reads (I:Inv X pins σ H s):∀{d:Dt}{x:V}{v:Value},RelV x v->Sh X.K H d x->∃as,Reads s.heap v (toP d) as
 | .non,x,v,r,h=>by obtain rfl:x = .non:=h;obtain rfl:v = .none:=r;exact⟨_, .none⟩
 | .bl b,x,v,r,h=>by obtain rfl:x = .bl b:=h;obtain rfl:v = .bool b:=r;exact⟨_, .bool b⟩
 | .int i,x,v,r,h=>by obtain rfl:x = .int i:=h;obtain⟨t,rfl⟩:=r;exact⟨_, .int i t⟩
 | .str y,x,v,r,h=>by obtain rfl:x = .str y:=h;obtain⟨t,rfl⟩:=r;exact⟨_, .str y t⟩
 | .tup ds,x,v,r,⟨a,xs,h1,h2,h3⟩=>by
  subst h1
  obtain rfl:v=Value.ref a:=r
  obtain⟨its,rv,⟨o,ho,hc,n,hd⟩,_⟩:=I.tuple h2
  obtain⟨as,ha⟩:=Inv.readsAll I rv h3
  exact⟨_, .tuple ho hc hd ha⟩
 | .lst ds,x,v,r,⟨a,xs,h1,h2,h3⟩=>by
  subst h1
  obtain rfl:v=Value.ref a:=r
  obtain⟨its,rv,pl,_⟩:=I.list h2
  obtain⟨o,ho,hc,n,hd⟩:=pl.isList
  obtain⟨as,ha⟩:=Inv.readsAll I rv h3
  exact⟨_, .list ho hc hd ha⟩
theorem Inv.readsAll (I:Inv X pins σ H s):∀{ds:List Dt}{xs:List V}{us:List Value},Vals xs us->ShL X.K H ds xs->∃as,ReadsAll s.heap us (aAH ds) as
 |[],xs,us,r,h=>by obtain rfl:xs=[]:=h;cases r;exact⟨_, .nil⟩
 |d :: ds,xs,us,r,⟨x,t,h1,h2,h3⟩=>by
  subst h1
  cases r with
  |cons r1 r2=>
   obtain⟨as,h4⟩:=Inv.reads I r1 h2
   obtain⟨bs,h5⟩:=Inv.readsAll I r2 h3
   exact⟨_, .cons h4 h5⟩
end
end
def okR (d:Dt):Prop:=(toP d).showable=true/\(toP d).leavesShort 1930=true/\(toP d).bulk<=4000/\dep d<=100
def ItAt (b:Bool) (h:Heap) (it l:Addr) (i:Nat):Prop:=∃o,h.get? it=some o/\o.cls = .type (if b then "list_iterator" else "tuple_iterator")/\o.data = .fields #[.ref l, .int i 0]
def ObAt (b:Bool) (h:Heap) (l:Addr) (us:Array Value):Prop:=∃o,h.get? l=some o/\o.cls = .type (if b then "list" else "tuple")/\∃n,o.data = .seq us n
theorem ItAt.keep {b:Bool}{h h':Heap}{it l:Addr}{i:Nat}(x:ItAt b h it l i)(e:∀o,h.get? it=some o->h'.get? it=some o):ItAt b h' it l i:=let⟨o,ho,r⟩:=x;⟨o,e _ ho,r⟩
theorem ObAt.keep {b:Bool}{h h':Heap}{l:Addr}{us:Array Value}(x:ObAt b h l us)(e:∀o,h.get? l=some o->h'.get? l=some o):ObAt b h' l us:=let⟨o,ho,r⟩:=x;⟨o,e _ ho,r⟩
theorem ItAt.lt {b:Bool}{h:Heap}{it l:Addr}{i:Nat}(x:ItAt b h it l i):it<h.objs.size:=let⟨_,ho,_⟩:=x;br ho
section
variable {prog:Program}{w:World}{A:Around}{E:Value->Shared->Prop}{s:Shared}
theorem mR {it t:Addr}{i:Nat}{us:Array Value}{x:Value}{Q:Value->Shared->Prop}(hit:s.heap.IsTupleIter it t i)(ht:s.heap.IsTuple t us)(hx:us[i]?=some x)
  (q:∀h',h'.IsTupleIter it t (i+1)->je it s.heap h'->Q x { s with heap:=h' }):wpAny (model prog w) A (dw (.ref it)) Q E s:=by
 obtain⟨ob,e1,e2,e3⟩:=id hit
 obtain⟨ol,f1,_,nl,f2⟩:=ht
 unfold dw;refine af (gi (name:=oi "__next__") hit.typeIs kq (fc kq hit.typeIs vo ?g (u7 _)))
 case g=>
  show wpAny _ _ (field (.ref it) 0 >>= _) _ _ s;refine af (gy e1 e3 (x := .ref t) rfl ?g)
  case g=>
   show wpAny _ _ (if(Value.ref t == Value.none)=true then _ else _) _ _ s;rw[if_neg (show ¬ ((Value.ref t == Value.none)=true) from bh)]
   show wpAny _ _ (field (.ref it) 1 >>= _) _ _ s;refine af (gy e1 e3 (x := .int i 0) rfl ?g)
   case g=>
    show wpAny _ _ (vp (.ref t) >>= _) _ _ s;refine af (fm f1 f2 ?g)
    case g=>
     simp only[cx,hx];refine af (Ax e1 e3 (by simp) (aq ⟨x,rfl,aq (q _ ?g (vq ..))⟩))
     case g=>exact⟨_,jx _ e1 (Obj.isFreed_of_fields (Obj.data_mapFields e3 _)),(Obj.cls_mapFields ..).trans e2,by rw[Obj.data_mapFields e3];simp[ze]⟩
theorem oN {it t:Addr}{i:Nat}{us:Array Value}{Q:Value->Shared->Prop}(hh:A.handled=none)(hit:s.heap.IsTupleIter it t i)(ht:s.heap.IsTuple t us)(hx:us[i]?=none)
  (q:∀h' e,Bx it s.heap h'->(∃o,h'.get? e=some o/\o.cls = .type "StopIteration")->E (.ref e) { s with heap:=h' }):wpAny (model prog w) A (dw (.ref it)) Q E s:=by
 obtain⟨ob,e1,e2,e3⟩:=id hit
 obtain⟨ol,f1,_,nl,f2⟩:=ht
 unfold dw;refine af (gi (name:=oi "__next__") hit.typeIs kq (fc kq hit.typeIs vo ?g (u7 _)))
 case g=>
  show wpAny _ _ (field (.ref it) 0 >>= _) _ _ s;refine af (gy e1 e3 (x := .ref t) rfl ?g)
  case g=>
   show wpAny _ _ (if(Value.ref t == Value.none)=true then _ else _) _ _ s;rw[if_neg (show ¬ ((Value.ref t == Value.none)=true) from bh)]
   show wpAny _ _ (field (.ref it) 1 >>= _) _ _ s;refine af (gy e1 e3 (x := .int i 0) rfl ?g)
   case g=>
    show wpAny _ _ (vp (.ref t) >>= _) _ _ s;refine af (fm f1 f2 ?g)
    case g=>
     simp only[cx,hx];refine af (tf (af (Ax e1 e3 (by simp) ?g)))
     case g=>
      show wpAny _ _ (newExc (.type "StopIteration") [] >>= _) _ _ _;refine af ?g
      case g=>
       simp only[newExc,newTuple];refine af (fb ?g (by size_fits))
       case g=>
        refine af (m:=xf _ _) (ye (a:=Value.none) (by first | rfl | (simp only[xf];rfl)) ?g)
        case g=>
         refine fb ?g (by size_fits)
         case g=>
          simp only[raiseNew];refine af (wpAny_handled ?g)
          case g=>
           first | rw[show A.in1.handled=none from hh] | rw[hh]
           exact af (aq (wpAny_throw (q _ _ (((vq ..).extBut.push _).push _) ⟨_,bg _ rfl,rfl⟩)))
theorem rW {b:Bool}{it l:Addr}{i:Nat}{us:Array Value}{x:Value}{Q:Value->Shared->Prop}(hit:ItAt b s.heap it l i)(ho:ObAt b s.heap l us)(hx:us[i]?=some x)
  (q:∀h',ItAt b h' it l (i+1)->je it s.heap h'->Q x { s with heap:=h' }):wpAny (model prog w) A (dw (.ref it)) Q E s:=by
 cases b with
 |true=>exact wpAny_nextOf_list_item (l:=l) (i:=i) (items:=us) hit ho hx q
 |false=>exact mR (t:=l) (i:=i) (us:=us) hit ho hx q
theorem aCf {b:Bool}{it l:Addr}{i:Nat}{us:Array Value}{Q:Value->Shared->Prop}(hh:A.handled=none)(hit:ItAt b s.heap it l i)(ho:ObAt b s.heap l us)(hx:us[i]?=none)
  (q:∀h' e,Bx it s.heap h'->(∃o,h'.get? e=some o/\o.cls = .type "StopIteration")->E (.ref e) { s with heap:=h' }):wpAny (model prog w) A (dw (.ref it)) Q E s:=by
 cases b with
 |true=>exact wpAny_nextOf_list_end (l:=l) (i:=i) (items:=us) hh hit ho hx q
 |false=>exact oN (t:=l) (i:=i) (us:=us) hh hit ho hx q
abbrev itO (b:Bool) (l:Addr):Obj:={ cls := .type (if b then "list_iterator" else "tuple_iterator"),data := .fields #[.ref l, .int 0 0] }
theorem yK {b:Bool}{l:Addr}{us:Array Value}{Q:Value->Shared->Prop}(ho:ObAt b s.heap l us)(q:Q (.ref s.heap.objs.size) { s with heap:=s.heap.push (itO b l) }):wpAny (model prog w) A (Bd (.ref l)) Q E s:=by
 cases b with
 |true=>exact xn (show s.heap.IsList l us from ho) q
 |false=>exact wo (show s.heap.IsTuple l us from ho) q
structure ZA (z ti to i1 i2:Addr):Prop where
 a1:ti≠z
 a2:to≠z
 a3:i1≠z
 a4:i2≠z
 a5:ti≠to
 a6:ti≠i1
 a7:ti≠i2
 a8:to≠i1
 a9:to≠i2
 a10:i1≠i2
def ZP (z to i1 i2 c:Addr):Prop:=c≠z/\c≠to/\c≠i1/\c≠i2
theorem aDq {b1 b2:Bool}{z ti to i1 i2 l1 l2:Addr}{k1 k2:Nat}{xs ys:Array Value}{x y u v:Value}{Q:Value->Shared->Prop}(D:ZA z ti to i1 i2)(D1:ZP z to i1 i2 l1)(D2:ZP z to i1 i2 l2)(hz:IsZip s.heap z ti to .none)(hti:xp s.heap ti (.ref i1) (.ref i2))(hto:xp s.heap to u v)
  (h1:ItAt b1 s.heap i1 l1 k1) (h2:ItAt b2 s.heap i2 l2 k2) (o1:ObAt b1 s.heap l1 xs) (o2:ObAt b2 s.heap l2 ys) (hx:xs[k1]?=some x) (hy:ys[k2]?=some y)
  (q:∀h',IsZip h' z ti to (ze s.heap.objs.size)->xp h' to x y->ItAt b1 h' i1 l1 (k1+1)->ItAt b2 h' i2 l2 (k2+1)->xp h' s.heap.objs.size x y->h'.objs.size=s.heap.objs.size+1->(∀c o,ZP z to i1 i2 c->s.heap.get? c=some o->h'.get? c=some o)->Q (.ref s.heap.objs.size) { s with heap:=h' }) :
  wpAny (model prog w) A (Builtin.«zip.__next__» ⟨[.ref z],[]⟩) (λfin s'=>∃r,fin = .done (.ret r)/\Q r s') E s:=by
 show wpAny _ _ (field (.ref z) 2 >>= _) _ _ _;refine af (gy hz rfl (x := .bool false) rfl ?g)
 case g=>
 show wpAny _ _ (field (.ref z) 3 >>= _) _ _ _;refine af (gy hz rfl (x := .ref ti) rfl (af (fm hti rfl ?g)))
 case g=>
 show wpAny _ _ (jd (.ref z) >>= _) _ _ _;unfold jd;refine af (af (gy hz rfl (x := .none) rfl (aq ?g)))
 case g=>
 simp only[if_true];refine af (tf (af (gy hz rfl (x := .ref to) rfl (af (f9 hz (by simp) λH1 z1 s1=>?g)))))
 case g=>
 replace z1:IsZip H1 z ti to .ellipsis:=z1
 refine af ?g
 case g=>
 simp only[List.zipIdx_cons,List.zipIdx_nil,i9,j9];refine af (af (u9 ?g))
 case g=>
 show wpAny _ _ (dw (.ref i1) >>= _) _ _ _;refine af (rW (b:=b1) (h1.keep λo e=>s1.extBut _ _ D.a3 e) (o1.keep λo e=>s1.extBut _ _ D1.1 e) hx λH2 t1 s2=>aq ?g)
 case g=>
 have p2:xp H2 to u v:=s2.extBut _ _ D.a8 (s1.extBut _ _ D.a2 hto)
 refine af (fm p2 rfl (af (uq p2 λH3 p3 s3=>?g)))
 case g=>
 replace p3:xp H3 to x v:=p3
 refine af (kg (aq (af (af (u9 ?g)))))
 case g=>
 show wpAny _ _ (dw (.ref i2) >>= _) _ _ _
 refine af (rW (b:=b2) (h2.keep λo e=>s3.extBut _ _ D.a9.symm (s2.extBut _ _ D.a10.symm (s1.extBut _ _ D.a4 e))) (o2.keep λo e=>s3.extBut _ _ D2.2.1 (s2.extBut _ _ D2.2.2.1 (s1.extBut _ _ D2.1 e))) hy λH4 t2 s4=>aq ?g)
 case g=>
 have p4:xp H4 to x v:=s4.extBut _ _ D.a9 p3
 refine af (fm p4 rfl (af (uq p4 λH5 p5 s5=>?g)))
 case g=>
 replace p5:xp H5 to x y:=p5
 refine af (kg (aq (aq (af (fm p5 rfl (af (xg ?g)))))))
 case g=>
 have sz:H5.objs.size=s.heap.objs.size:=by rw[s5.1,s4.1,s3.1,s2.1,s1.1]
 have z5:IsZip H5 z ti to .ellipsis:=s5.extBut _ _ D.a2.symm (s4.extBut _ _ D.a4.symm (s3.extBut _ _ D.a2.symm (s2.extBut _ _ D.a3.symm z1)))
 have k5:∀c o,ZP z to i1 i2 c->s.heap.get? c=some o->H5.get? c=some o:=λc o n e=>s5.extBut _ _ n.2.1 (s4.extBut _ _ n.2.2.2 (s3.extBut _ _ n.2.1 (s2.extBut _ _ n.2.2.1 (s1.extBut _ _ n.1 e))))
 have t15:ItAt b1 H5 i1 l1 (k1+1):=t1.keep λo e=>s5.extBut _ _ D.a8.symm (s4.extBut _ _ D.a10 (s3.extBut _ _ D.a8.symm e))
 have t25:ItAt b2 H5 i2 l2 (k2+1):=t2.keep λo e=>s5.extBut _ _ D.a9.symm e
 have lz:z<H5.objs.size:=br z5
 show wpAny _ _ (ph (.ref z) (.ref H5.objs.size) >>= _) _ _ _;unfold ph
 have z6:IsZip (H5.push { cls := .type "tuple",data := .seq #[x,y] }) z ti to .ellipsis:=ak _ z5
 refine af (af (f9 z6 (by simp) λH7 z7 s7=>?g))
 case g=>
 replace z7:IsZip H7 z ti to (ze H5.objs.size):=z7
 refine f9 z7 (by simp) λH8 z8 s8=>?g
 case g=>
 replace z8:IsZip H8 z ti to (ze H5.objs.size):=z8
 have up:∀c o,c≠z->H5.get? c=some o->H8.get? c=some o:=λc o n e=>s8.extBut _ _ n (s7.extBut _ _ n (ak _ e))
 have p8:xp H8 H5.objs.size x y:=s8.extBut _ _ (wc lz) (s7.extBut _ _ (wc lz) (bg _ rfl))
 have n8:H8.objs.size=H5.objs.size+1:=by rw[s8.1,s7.1,ji]
 rw[sz] at z8 p8 n8
 refine aq ⟨_,rfl,(?g:Q (.ref H5.objs.size) _)⟩
 case g=>
 rw[sz]
 exact q H8 z8 (up _ _ D.a2 p5) (t15.keep λo e=>up _ o D.a3 e) (t25.keep λo e=>up _ o D.a4 e) p8 n8 λc o n e=>up c o n.1 (k5 c o n e)
theorem aFH {b1 b2:Bool}{z ti to i1 i2 l1 l2:Addr}{k1 k2:Nat}{xs ys:Array Value}{u v:Value}{Q:Fin->Shared->Prop}(hh:A.handled=none)(D:ZA z ti to i1 i2)(D1:ZP z to i1 i2 l1)(D2:ZP z to i1 i2 l2)(hz:IsZip s.heap z ti to .none)(hti:xp s.heap ti (.ref i1) (.ref i2))(hto:xp s.heap to u v)
  (h1:ItAt b1 s.heap i1 l1 k1) (h2:ItAt b2 s.heap i2 l2 k2) (o1:ObAt b1 s.heap l1 xs) (o2:ObAt b2 s.heap l2 ys) (hend:xs[k1]?=none\/ys[k2]?=none)
  (q:∀h' e,(∀c o,ZP z to i1 i2 c->s.heap.get? c=some o->h'.get? c=some o)->(∃o,h'.get? e=some o/\o.cls = .type "StopIteration")->E (.ref e) { s with heap:=h' }) :
  wpAny (model prog w) A (Builtin.«zip.__next__» ⟨[.ref z],[]⟩) Q E s:=by
 show wpAny _ _ (field (.ref z) 2 >>= _) _ _ _;refine af (gy hz rfl (x := .bool false) rfl ?g)
 case g=>
 show wpAny _ _ (field (.ref z) 3 >>= _) _ _ _;refine af (gy hz rfl (x := .ref ti) rfl (af (fm hti rfl ?g)))
 case g=>
 show wpAny _ _ (jd (.ref z) >>= _) _ _ _;unfold jd;refine af (af (gy hz rfl (x := .none) rfl (aq ?g)))
 case g=>
 simp only[if_true];refine af (tf (af (gy hz rfl (x := .ref to) rfl (af (f9 hz (by simp) λH1 z1 s1=>?g)))))
 case g=>
 replace z1:IsZip H1 z ti to .ellipsis:=z1
 refine af ?g
 case g=>
 simp only[List.zipIdx_cons,List.zipIdx_nil,i9,j9];refine af (af (u9 ?g))
 case g=>
 show wpAny _ _ (dw (.ref i1) >>= _) _ _ _
 cases hx:xs[k1]? with
 |none=>
  refine af (aCf (b:=b1) hh (h1.keep λo e=>s1.extBut _ _ D.a3 e) (o1.keep λo e=>s1.extBut _ _ D1.1 e) hx λH2 e s2 ⟨oe,e1,e2⟩=>?g)
  case g=>
  have z2:IsZip H2 z ti to .ellipsis:=s2 _ _ D.a3.symm z1
  have ne:e≠z:=λx=>by subst x;rw[z2] at e1;cases e1;simp at e2
  exact f9 z2 (by simp) λH3 _ s3=>q H3 e (λc o n x=>s3.extBut _ _ n.1 (s2 _ _ n.2.2.1 (s1.extBut _ _ n.1 x))) ⟨oe,s3.extBut _ _ ne e1,e2⟩
 |some x=>
  have hy:ys[k2]?=none:=hend.resolve_left (by rw[hx];exact λh=>by cases h)
  refine af (rW (b:=b1) (h1.keep λo e=>s1.extBut _ _ D.a3 e) (o1.keep λo e=>s1.extBut _ _ D1.1 e) hx λH2 t1 s2=>aq ?g)
  case g=>
  have p2:xp H2 to u v:=s2.extBut _ _ D.a8 (s1.extBut _ _ D.a2 hto)
  refine af (fm p2 rfl (af (uq p2 λH3 p3 s3=>?g)))
  case g=>
  refine af (kg (aq (af (af (u9 ?g)))))
  case g=>
  show wpAny _ _ (dw (.ref i2) >>= _) _ _ _
  refine af (aCf (b:=b2) hh (h2.keep λo e=>s3.extBut _ _ D.a9.symm (s2.extBut _ _ D.a10.symm (s1.extBut _ _ D.a4 e))) (o2.keep λo e=>s3.extBut _ _ D2.2.1 (s2.extBut _ _ D2.2.2.1 (s1.extBut _ _ D2.1 e))) hy λH4 e s4 ⟨oe,e1,e2⟩=>?g)
  case g=>
  have z4:IsZip H4 z ti to .ellipsis:=s4 _ _ D.a4.symm (s3.extBut _ _ D.a2.symm (s2.extBut _ _ D.a3.symm z1))
  have ne:e≠z:=λx=>by subst x;rw[z4] at e1;cases e1;simp at e2
  exact f9 z4 (by simp) λH5 _ s5=>q H5 e (λc o n x=>s5.extBut _ _ n.1 (s4 _ _ n.2.2.2 (s3.extBut _ _ n.2.1 (s2.extBut _ _ n.2.2.1 (s1.extBut _ _ n.1 x))))) ⟨oe,s5.extBut _ _ ne e1,e2⟩
end
section
variable {X:Cx}{pins:List (Addr×Obj)}{σ:St}{H:Hp}{s:Shared}{h':Heap}
theorem Inv.turnedL {t':Nat}{ch:List Addr}(I:Inv X pins σ H s)(hf:∀b∈ch,sY X pins H b)(k:∀b o,b∉ch->s.heap.get? b=some o->h'.get? b=some o):Inv X pins σ H { s with heap:=h',toks:=t' }:=by
 have nit:∀b u,H b=some u->b∉ch:=λb u e z=>by rw[(hf b z).1] at e;cases e
 refine I.step (g':=s.gens) (d':=s.drawn) (ch:=ch) (λb hb=>?_) (λb o _ _ hc e _=>k b o hc e) (λb o _ _ hc e _=>⟨o.slots,k b o hc e⟩) (λ_ _ _ _ n=>n) (λb o hc e=>⟨o,k b o hc e⟩) (λ_ _ e=>e) (λ_ _ _ e=>e) (λb ps e=>⟨#[],by rw[e];simp⟩) (λm hm=>?_) (λb u e=>?_) I.bare
 ·obtain⟨_,f1,_,f3,f4,f5⟩:=hf b hb
  exact⟨f3,f1,f4,f5⟩
 ·obtain⟨o,es,ep,ho,r⟩:=hm
  exact⟨o,es,ep,k _ o (λz=>(hf _ z).2.1 rfl) ho,r⟩
 ·refine(I.hok b u e).stay (λc v hc q=>k c v ?_ q) (λ_ q=>q) λ_ _ q=>q
  rcases hc with z | z
  ·rw[z];exact nit b u e
  ·exact nit c _ z
end
def SqB (b:Bool) (K:aa) (H:Hp) (l:Addr) (xs:List V):Prop:=match b with | true=>SqL K H l xs | false=>SqT K H l xs
section
variable {X:Cx}{pins:List (Addr×Obj)}{σ:St}{H:Hp}{s:Shared}
theorem Inv.obAt {b:Bool}{l:Addr}{xs:List V}(I:Inv X pins σ H s)(h:SqB b X.K H l xs):∃its:List Value,Vals xs its/\ObAt b s.heap l its.toArray/\xs.length<=ba:=by
 cases b with
 |true=>
  obtain⟨its,rv,pl,hz⟩:=I.list h
  obtain⟨o,ho,hc,n,hd⟩:=pl.isList
  exact⟨its,rv,⟨o,ho,hc,n,hd⟩,hz⟩
 |false=>
  obtain⟨its,rv,⟨o,ho,hc,n,hd⟩,hz⟩:=I.tuple h
  exact⟨its,rv,⟨o,ho,hc,n,hd⟩,hz⟩
theorem Inv.sqB_inj {b:Bool}{l:Addr}{xs ys:List V}(I:Inv X pins σ H s)(h:SqB b X.K H l xs)(h':SqB b X.K H l ys):xs=ys:=by
 cases b with
 |true=>exact I.list_inj h h'
 |false=>exact I.tuple_inj h h'
end
def Itz (K : aa) (b1 b2 : Bool) (l1 l2 : Addr) : It :=
  ⟨λi H => ∃xs ys x y, SqB b1 K H l1 xs /\ SqB b2 K H l2 ys /\ xs[i]? = some x /\ ys[i]? = some y,
   λi H v H' => ∃p x y, v = .ref p /\ H p = none /\ H' = upd H p (.tup [x, y]) /\ (∀xs, SqB b1 K H l1 xs -> xs[i]? = some x) /\ ∀ys, SqB b2 K H l2 ys -> ys[i]? = some y,
   λi H => ∃xs ys, SqB b1 K H l1 xs /\ SqB b2 K H l2 ys /\ (xs.length <= i \/ ys.length <= i)⟩
def zTn (b1 b2:Bool) (z ti to i1 i2 l1 l2:Addr) (i:Nat) (h:Heap):Prop:=IsZip h z ti to .none/\xp h ti (.ref i1) (.ref i2)/\(∃u v,xp h to u v)/\ItAt b1 h i1 l1 i/\ItAt b2 h i2 l2 i
theorem aDr {P:Program}{w:World}{K:aa}{es:List Expr}{k:Nat}{pos:Pos}{b1 b2:Bool}{z ti to i1 i2 l1 l2:Addr}(D:ZA z ti to i1 i2)(D1:ZP z to i1 i2 l1)(D2:ZP z to i1 i2 l2) :
  aDc P w K (.Tuple es k pos) (Itz K b1 b2 l1 l2) [z,ti,to,i1,i2] z (zTn b1 b2 z ti to i1 i2 l1 l2) where
 mem:=by simp
 obj:=λi h ⟨h1,h2,⟨u,v,h3⟩,⟨o4,h4,_,d4⟩,⟨o5,h5,_,d5⟩⟩ b hb=>by
  simp only[b6,yr,or_false] at hb
  rcases hb with rfl | rfl | rfl | rfl | rfl
  ·exact⟨_,h1,λv q=>by cases q⟩
  ·exact⟨_,h2,λv q=>by cases q⟩
  ·exact⟨_,h3,λv q=>by cases q⟩
  ·exact⟨_,h4,λv q=>by rw[d4] at q;cases q⟩
  ·exact⟨_,h5,λv q=>by rw[d5] at q;cases q⟩
 keep:=λi h h' ⟨h1,h2,⟨u,v,h3⟩,h4,h5⟩ kp=>⟨kp z (by simp) _ h1,kp ti (by simp) _ h2,⟨u,v,kp to (by simp) _ h3⟩,h4.keep λo e=>kp i1 (by simp) o e,h5.keep λo e=>kp i2 (by simp) o e⟩
 item:=by
  intro X hP hw hK hc i pins s σ H E I hf st hg
  subst hP hw hK
  obtain⟨h1,h2,⟨u0,v0,h3⟩,h4,h5⟩:=st
  obtain⟨xs,ys,x,y,q1,q2,hx,hy⟩:=hg
  obtain⟨us,r1,o1,z1⟩:=I.obAt q1
  obtain⟨vs,r2,o2,z2⟩:=I.obAt q2
  obtain⟨ux,hux,rx⟩:=r1.get hx
  obtain⟨uy,huy,ry⟩:=r2.get hy
  have hT:s.TypeIs (.ref z) "zip":=⟨_,h1,rfl⟩
  unfold wd
  refine af (q9 (gi (name:=oi "__next__") hT vt (fc vt hT F.entry_zip_next (aDq D D1 D2 h1 h2 h3 h4 h5 o1 o2 (by simpa using hux) (by simpa using huy) λh' g1 g2 g3 g4 g5 g6 kp=>aq ⟨_,rfl,?g⟩) (F.args_zip_next_1 _))))
  case g=>
  refine wpAny_letOwnedTupleGo_zip (s:={ s with heap:=h' }) g1 λh2' g1' sb=>?g
  case g=>
  have lt:∀b∈[z,ti,to,i1,i2],b<s.heap.objs.size:=λb hb=>by
   simp only[b6,yr,or_false] at hb
   rcases hb with rfl | rfl | rfl | rfl | rfl
   ·exact br h1
   ·exact br h2
   ·exact br h3
   ·exact h4.lt
   ·exact h5.lt
  have kb:∀c o,c∉[z,ti,to,i1,i2]->s.heap.get? c=some o->h'.get? c=some o:=λc o n e=>kp c o ⟨λq=>n (by simp[q]),λq=>n (by simp[q]),λq=>n (by simp[q]),λq=>n (by simp[q])⟩ e
  have hn:H s.heap.objs.size=none:=I.hok.fresh (ay _)
  have I1:Inv X pins σ (upd H s.heap.objs.size (.tup [x,y])) { s with heap:=s.heap.push { cls := .type "tuple",data := .seq #[ux,uy] } }:=
   I.laid (t':=s.toks) (λb o e=>ak _ e) (ay _) (show ObjOk X.prog X.w _ _ _ (.tup [x,y]) from⟨show 2<=ba by decide,[ux,uy], .cons rx (.cons ry .nil),TupN.new _ _⟩)
  have hf1:∀b∈[z,ti,to,i1,i2],sY X pins (upd H s.heap.objs.size (.tup [x,y])) b:=λb hb=>by
   obtain⟨f0,f⟩:=hf b hb
   exact⟨by rw[aL (df (lt b hb))];exact f0,f⟩
  have I2:Inv X pins σ (upd H s.heap.objs.size (.tup [x,y])) { s with heap:=h' }:=I1.turnedL (t':=s.toks) hf1 λb o nb e=>by
   rcases ur e with⟨eb,eo⟩ | e
   ·subst eb;subst eo
    exact g5
   ·exact kb b o nb e
  have I3:Inv X pins σ (upd H s.heap.objs.size (.tup [x,y])) { s with heap:=h2' }:=I2.turnedL (t':=s.toks) hf1 λb o nb e=>sb.extBut _ _ (λq=>nb (by simp[q])) e
  exact⟨.ref s.heap.objs.size,_,I3,rfl,⟨_,x,y,rfl,hn,rfl,λxs' e=>by rw[I.sqB_inj e q1];exact hx,λys' e=>by rw[I.sqB_inj e q2];exact hy⟩,
   ⟨g1',sb.extBut _ _ D.a1 (kp _ _ ⟨D.a1,D.a5,D.a6,D.a7⟩ h2),⟨_,_,sb.extBut _ _ D.a2 g2⟩,g3.keep λo e=>sb.extBut _ _ D.a3 e,g4.keep λo e=>sb.extBut _ _ D.a4 e⟩,λb hb=>(hf1 b hb).1⟩
 done:=by
  intro X hP hw hK hc i pins s σ H E I hf st hg
  subst hP hw hK
  obtain⟨h1,h2,⟨u0,v0,h3⟩,h4,h5⟩:=st
  obtain⟨xs,ys,q1,q2,hl⟩:=hg
  obtain⟨us,r1,o1,z1⟩:=I.obAt q1
  obtain⟨vs,r2,o2,z2⟩:=I.obAt q2
  have l1':=r1.length
  have l2':=r2.length
  have hT:s.TypeIs (.ref z) "zip":=⟨_,h1,rfl⟩
  unfold wd
  refine af (q9 (gi (name:=oi "__next__") hT vt (fc vt hT F.entry_zip_next (aFH (I.ok.hd hc) D D1 D2 h1 h2 h3 h4 h5 o1 o2 (hl.elim (λh => .inl (by simp;omega)) λh => .inr (by simp;omega)) λh' e kp ⟨o,e1,e2⟩=>?g) (F.args_zip_next_1 _))))
  case g=>
  refine af (pz (T:="StopIteration") (b:=true) ⟨o,e1,e2⟩ isSubtype_stop (aq ⟨rfl,?g⟩))
  case g=>
  exact I.turnedL (t':=s.toks) hf λc o n e=>kp c o ⟨λq=>n (by simp[q]),λq=>n (by simp[q]),λq=>n (by simp[q]),λq=>n (by simp[q])⟩ e
 self:=λ_ _ _ _ _ st q=>wpAny_pyIter_zip st.1 q
abbrev zH1 (h:Heap) (b1:Bool) (l1:Addr):Heap:=h.push (itO b1 l1)
abbrev zH2 (h:Heap) (b1 b2:Bool) (l1 l2:Addr):Heap:=(zH1 h b1 l1).push (itO b2 l2)
abbrev zH3 (h:Heap) (b1 b2:Bool) (l1 l2:Addr):Heap:=(zH2 h b1 b2 l1 l2).push { cls := .type "tuple",data := .seq #[.ref h.objs.size, .ref (zH1 h b1 l1).objs.size] }
abbrev zH4 (h:Heap) (b1 b2:Bool) (l1 l2:Addr):Heap:=(zH3 h b1 b2 l1 l2).push { cls := .type "tuple",data := .seq #[.none, .none] }
abbrev zH5 (h:Heap) (b1 b2:Bool) (l1 l2:Addr):Heap:=(zH4 h b1 b2 l1 l2).push { cls := .type "zip",data := .fields #[.none, .bool false, .bool false, .ref (zH2 h b1 b2 l1 l2).objs.size, .ref (zH3 h b1 b2 l1 l2).objs.size] }
theorem ObAt.push {b:Bool}{h:Heap}{l:Addr}{us:Array Value}(x:ObAt b h l us)(o:Obj):ObAt b (h.push o) l us:=x.keep λ_ e=>ak _ e
theorem aGa (b1 b2:Bool)(l1 l2:Addr)(xs ys:Array Value) :
  Meets (Builtin.«zip.__new__» ⟨[.type "zip", .ref l1, .ref l2],[]⟩) (λ_ R s=>ObAt b1 s.heap l1 xs/\ObAt b2 s.heap l2 ys/\R (.ok (.ret (.ref (zH4 s.heap b1 b2 l1 l2).objs.size))) { s with heap:=zH5 s.heap b1 b2 l1 l2 }):=
 .of_wp λprog w A R s h=>by
  obtain⟨hp,g,d,tk,os⟩:=s;obtain⟨m1,m2,q⟩:=h
  have hsub:=sub_zip;have n1:ObAt b1 (Shared.heap ⟨hp,g,d,tk,os⟩) l1 xs:=m1
  have n2:ObAt b2 (Shared.heap ⟨hp.push (itO b1 l1),g,d,tk,os⟩) l2 ys:=ObAt.push m2 _
  wp_walk using yK n1,yK n2
  exact⟨_,rfl,q⟩
theorem aEc {prog:Program}{w:World}{A:Around}{E:Value->Shared->Prop}{s:Shared}{b1 b2:Bool}{l1 l2:Addr}{xs ys:Array Value}{Q:Value->Shared->Prop}(o1:ObAt b1 s.heap l1 xs)(o2:ObAt b2 s.heap l2 ys)
  (q:∀h',zTn b1 b2 (s.heap.objs.size+4) (s.heap.objs.size+2) (s.heap.objs.size+3) s.heap.objs.size (s.heap.objs.size+1) l1 l2 0 h'->(∀c o,s.heap.get? c=some o->h'.get? c=some o)->Q (.ref (s.heap.objs.size+4)) { s with heap:=h' }) :
  wpAny (model prog w) A (call (.type "zip") [.ref l1, .ref l2]) Q E s:=by
 refine callType_new F.called_zip (by decide) (F.typeCall_zip_2 _ _) (F.newCall_zip_2 _ _) (λob=>F.args_object_init_3 ob _ _) F.entry_zip_new (aGa b1 b2 l1 l2 xs ys) ⟨o1,o2,?g⟩
 case g=>
 have z1:(zH1 s.heap b1 l1).objs.size=s.heap.objs.size+1:=ji ..
 have z2:(zH2 s.heap b1 b2 l1 l2).objs.size=s.heap.objs.size+2:=by rw[ji,z1]
 have z3:(zH3 s.heap b1 b2 l1 l2).objs.size=s.heap.objs.size+3:=by rw[ji,z2]
 have z4:(zH4 s.heap b1 b2 l1 l2).objs.size=s.heap.objs.size+4:=by rw[ji,z3]
 have g5:(zH5 s.heap b1 b2 l1 l2).get? (zH4 s.heap b1 b2 l1 l2).objs.size=some _:=bg _ rfl
 have g4:(zH5 s.heap b1 b2 l1 l2).get? (zH3 s.heap b1 b2 l1 l2).objs.size=some _:=ak _ (bg _ rfl)
 have g3:(zH5 s.heap b1 b2 l1 l2).get? (zH2 s.heap b1 b2 l1 l2).objs.size=some _:=ak _ (ak _ (bg _ rfl))
 have g2:(zH5 s.heap b1 b2 l1 l2).get? (zH1 s.heap b1 l1).objs.size=some _:=ak _ (ak _ (ak _ (bg _ rfl)))
 have g1:(zH5 s.heap b1 b2 l1 l2).get? s.heap.objs.size=some _:=ak _ (ak _ (ak _ (ak _ (bg _ rfl))))
 rw[z2,z3,z4] at g5;rw[z1,z2] at g3;rw[z3] at g4;rw[z1] at g2
 show _/\_
 rw[z4]
 exact⟨⟨_,g5,rfl⟩,q _ ⟨g5,g3,⟨_,_,g4⟩,⟨_,g1,rfl,rfl⟩,⟨_,g2,rfl,rfl⟩⟩ λc o x=>ak _ (ak _ (ak _ (ak _ (ak _ x))))⟩
def aJG (K:aa) (ta:TA):TI:=λσ H R=>ta σ H λvs H1=>∃l1 l2 b1 b2,vs=[.ref l1, .ref l2]/\(∃xs,SqB b1 K H1 l1 xs)/\(∃ys,SqB b2 K H1 l2 ys)/\R (Itz K b1 b2 l1 l2) H1
theorem aHA (n:Nat):ZA (n+4) (n+2) (n+3) n (n+1):=by
 constructor <;> (intro h;replace h:(_:Nat)=_:=h;omega)
theorem aFn {n l:Nat}(h:l<n):ZP (n+4) (n+3) n (n+1) l:=
 ⟨df (cy h (nv _ _)),df (cy h (nv _ _)),df h,df (cy h (nv _ _))⟩
theorem aHX:ei "zip" = some (.type "zip"):=by decide+kernel
theorem aHC {X:Cx}{es:List Expr}{k:Nat}{po:Pos}{a b:Expr}{ta:TA}{p pos:Pos}(hg:Gl X "zip")(hm:X.mg "zip" = none)(ha:PA X [a,b] ta)(hs:fi [a,b] X.env=[(false,eval a X.env),(false,eval b X.env)]:=by rfl)(hs2:fi [b] X.env=[(false,eval b X.env)]:=by rfl) :
  PI X (.Tuple es k po) (.Call (.Name "zip" p) [a,b] [] pos) (aJG X.K ta):=by
 intro pins s σ H R I h
 refine Call_ (mZ I hg hm aHX (jk (thn (ha pos pins s σ H _ I h) λus s1 ⟨vs,H1,I1,r1,q1⟩=>?g) (by rw[hs,hs2]) (by rw[hs2];rfl)))
 case g=>
 obtain⟨l1,l2,b1,b2,e,⟨xs,q2⟩,⟨ys,q3⟩,q⟩:=q1
 subst e
 obtain⟨u1,u2,rfl,e1,e2⟩:=aFt r1
 obtain rfl:u1=Value.ref l1:=e1
 obtain rfl:u2=Value.ref l2:=e2
 obtain⟨x1,v1,o1,_⟩:=I1.obAt q2
 obtain⟨x2,v2,o2,_⟩:=I1.obAt q3
 have a1:l1<s1.heap.objs.size:=let⟨_,e,_⟩:=o1;br e
 have a2:l2<s1.heap.objs.size:=let⟨_,e,_⟩:=o2;br e
 refine aEc o1 o2 λh' zt kp=>wpAny_pyIter_zip (s:={ s1 with heap:=h' }) zt.1 ?g
 case g=>
 refine⟨_,[s1.heap.objs.size+4,s1.heap.objs.size+2,s1.heap.objs.size+3,s1.heap.objs.size,s1.heap.objs.size+1],_,_,H1,rfl,I1.kept (t':=s1.toks) kp,aDr (aHA _) (aFn a1) (aFn a2),zt,λb hb=>?g,q⟩
 case g=>
 have lb:s1.heap.objs.size<=b:=by
  simp only[b6,yr,or_false] at hb
  rcases hb with rfl | rfl | rfl | rfl | rfl <;> first | exact nv _ _ | exact ay _
 exact I1.fpOk lb (I1.hok.fresh lb)
theorem aFY {X:Cx}{K:aa}{es:List Expr}{k:Nat}{po:Pos}{a b:Expr}{ta:TA}{p pos:Pos}(hK:X.K=K)(hg:Gl X "zip")(hm:X.mg "zip" = none)(ha:PA X [a,b] ta)(hs:fi [a,b] X.env=[(false,eval a X.env),(false,eval b X.env)]:=by rfl)(hs2:fi [b] X.env=[(false,eval b X.env)]:=by rfl) :
  PI X (.Tuple es k po) (.Call (.Name "zip" p) [a,b] [] pos) (aJG K ta):=by subst hK;exact aHC hg hm ha hs hs2
theorem aGL {K:aa}{b1 b2:Bool}{l1 l2:Addr}{xs ys:List V}{g:TG}{tb:TS}{D:hU}{σ:St}{H:Hp}(hlen:ys.length=xs.length)(Pv:Nat->St->Hp->Prop)(h0:Pv 0 σ H)(hl:∀i σ H,i<=xs.length->Pv i σ H->SqB b1 K H l1 xs/\SqB b2 K H l2 ys)
  (hs:∀i x y σ H p,xs[i]?=some x->ys[i]?=some y->H p=none->Pv i σ H->g (.ref p) σ (upd H p (.tup [x,y])) λσ2 H2=>tb { D with nx:=Pv (i+1),ct:=Pv (i+1),bk:=D.nx } σ2 H2) (hd:∀σ H,Pv xs.length σ H->D.nx σ H) :
  eK (Itz K b1 b2 l1 l2) g tb D σ H:=by
 refine⟨λi m σ H=>m=xs.length - i/\i<=xs.length/\Pv i σ H,⟨xs.length,by simp,bc _,h0⟩,?g⟩
 case g=>
 rintro i m σ H ⟨rfl,hi,p⟩
 obtain⟨q1,q2⟩:=hl i σ H hi p
 by_cases hlt:i<xs.length
 ·refine .inr ⟨⟨xs,ys,xs[i],ys[i]'(by omega),q1,q2,by simp[hlt],by simp[show i<ys.length by omega]⟩,Pv (i+1),λσ' H' p'=>⟨xs.length - (i+1),by omega,rfl,hlt,p'⟩,λv H' ⟨a,x,y,e1,e2,e3,e4,e5⟩=>?g⟩
  case g=>
  subst e1;subst e3
  exact hs i x y σ H a (e4 xs q1) (e5 ys q2) e2 p
 ·obtain rfl:i=xs.length:=by omega
  exact .inl ⟨⟨xs,ys,q1,q2, .inl (ay _)⟩,hd σ H p⟩
structure aLh (mg:Str->Option Value):Prop extends Blt mg where
 zip:mg "zip" = none
 repr:mg "repr" = none
 enumerate:mg "enumerate" = none
 reversed:mg "reversed" = none
 str:mg "str" = none
section
variable {prog:Program}{w:World}{A:Around}{E:Value->Shared->Prop}{s:Shared}
end
theorem pN {X:Cx}{K:aa}{o e:Expr}{es:List Expr}{to:TE}{t:TA}{name:Str}{apos cpos:Pos}{T id:String}{r:V->List V->Hp->VK->Prop}(hK:X.K=K)(pa:PlainAttrs T)(slot:Slot T name id)(hty:typeOf (.builtin id)=pure (.type "method_descriptor"))(hm:MtM X id r)(ho:PE X o to)(ha:PA X (e :: es) t)
  (b1:qu o name X.env (eval o X.env)=eval o X.env:=by rfl)
  (b2:((zc cpos (fi (e :: es) X.env)).all (λx=>!x.1) && (backToKw cpos (keywordEach [] X.env)).all (λx=>x.1.isSome) && decide ((e :: es).length+([]:List Keyword).length+(if([]:List Keyword).isEmpty then 0 else 1)<30))=true:=by rfl)
  (b3:(apos.endLine == cpos.line)=true:=by rfl) (b4:fi (e :: es) X.env=(false,eval e X.env) :: fi es X.env:=by rfl) (b5:(zc cpos (fi es X.env)).any (·.1)=false:=by rfl) :
  PE X (.Call (.Attribute o name apos) (e :: es) [] cpos) (tBM K T r to t):=by subst hK;exact aJO pa slot hty hm ho ha b1 b2 b3 b4 b5
def vO:R2:=λx y H Q=>(∃a b,x = .bl a/\y = .bl b/\Q (.bl (!(a == b))) H)\/(y = .non/\Q (.bl (!decide (x = .non))) H)
theorem tV {X:Cx}:OpR X (i8 .IsNot) vO:=by
 refine OpR.or (λpins s σ H x y v u Q I rx ry h=>?g) aGe
 case g=>
 obtain⟨a,b,rfl,rfl,q⟩:=h
 obtain rfl:v=Value.bool a:=rx
 obtain rfl:u=Value.bool b:=ry
 exact wpAny_isNot_plain (by cases a <;> cases b <;> rfl) (aFg I q (by cases a <;> cases b <;> rfl))
theorem sV (l:Addr)(items:Array Value)(n:Nat)(b:Addr)(dd:Option Addr)(ss:Array (Option Value))(items2:Array Value)(n2:Nat)(hs0:¬(!items.isEmpty && jf (items.size+items2.size))=true)(hs1:items.size<=ba)(hs2:items.size+items2.size<=ba+1) :
  Meets (Builtin.«list.extend» ⟨[.ref l, .ref b],[]⟩) (λ_ R s=>s.heap.get? l=some { cls := .type "list",dict:=none,data := .seq items n,slots:=#[] }/\s.heap.get? b=some { cls := .type "tuple",dict:=dd,data := .seq items2 n2,slots:=ss }/\R (.ok (.ret Value.none)) { s with heap:=s.heap.update l (fv λx=>x++items2),toks:=s.toks }):=
 .of_wp λprog w A R s h=>by
  obtain⟨s1,s2,s3,s4,s5⟩:=s
  obtain⟨gl,gb,h⟩:=h
  have f2:=qj
  have f3:=AutoSeq1.sub_list_list
  have f4:=AutoSeq1.sub_tuple_list
  have f5:=AutoSeq1.sub_list_tuple
  have gz:(items++items2).size<=ba+1:=by rw[Array.size_append];exact hs2
  wp_walk using(mi gl rfl (hz:=hs1) (_hz':=gz)),jg gl,jg gb
  exact⟨_,rfl,h⟩
def zA (K:aa):V->List V->Hp->VK->Prop:=λx vs H Q=>∃l b xs zs,x = .ref l/\vs=[.ref b]/\H l=some (.lst xs)/\SqT K H b zs/\xs.length+zs.length<=ba/\Q .non (upd H l (.lst (xs++zs)))
theorem aAo {X:Cx}{K:aa}(hK:X.K=K):MtM X "list.extend" (zA K):=by
 subst hK
 intro pins s σ H x vs v us Q I rx rv h
 obtain⟨l,b,xs,zs,rfl,rfl,hH,hB,hz,q⟩:=h
 cases rx
 obtain⟨u,rfl,ru⟩:=rv.one
 cases ru
 obtain⟨z,its,n,r,hl,e⟩:=I.lstM hH
 obtain⟨its2,r2,⟨o,e2,hc,n2,hd⟩,z2⟩:=I.tuple hB
 obtain⟨oc,od,odt,osl⟩:=o
 subst hc hd
 have hl2:=r2.length
 have hsz:its.toArray.size+its2.toArray.size<=ba:=by rw[av,av];omega
 have hlong:¬ (!its.toArray.isEmpty && jf (its.toArray.size+its2.toArray.size))=true:=by
  rw[rL hsz,Bool.and_false]
  exact bh
 refine vc F.slot_list_extend ⟨_,e,rfl⟩ AG (Aj _ _)
  (sV l its.toArray n b od osl its2.toArray n2 hlong (by rw[av];omega) (by omega)) ⟨e,e2,?_⟩
 refine⟨.non,_,I.lset (its':=its++its2) hH e (by simp) (r.append r2) ?_,rfl,q⟩
 rw[ao]
 omega
abbrev wV (K:aa):V->List V->Hp->VK->Prop:=λx vs H Q=>aCW x vs H Q\/zA K x vs H Q
theorem aAt {X:Cx}{K:aa}(hK:X.K=K):MtM X "list.extend" (wV K):=by
 intro pins s σ H x vs v us Q I rx rv h
 rcases h with h | h
 ·exact aBw pins s σ H x vs v us Q I rx rv h
 ·exact aAo hK pins s σ H x vs v us Q I rx rv h
end L2
namespace L2
open PySem
def bW (p:Nat):V := .int (p:Int)
theorem lY (ps:List Nat):ps.map bW=(ps.map λp:Nat=>(p:Int)).map V.int:=by rw[fj];rfl
theorem cD {c:Bool}{A B:Prop}(e:c=true)(h:A):if c=true then A else B:=by rw[if_pos e];exact h
theorem cB {c:Bool}{A B:Prop}(e:c=false)(h:B):if c=true then A else B:=by subst e;exact aHa h
theorem dJ {K:aa}{H:Hp}{a l:Addr}{xs ys:List V}{o:HO}(h:SqT K H a xs)(hl:H l=some (.lst ys)):SqT K (upd H l o) a xs:=by
 have key:∀u,H a=some u->(∀zs,u ≠ .lst zs)->upd H l o a=some u:=λu e n=>by
  rw[aL]
  ·exact e
  ·intro z
   rw[z,hl] at e
   cases e
   exact n _ rfl
 rcases h with(h | ⟨u,h⟩) | h
 ·exact .inl (.inl (key _ h λ_ z=>by cases z))
 ·exact .inl (.inr ⟨u,key _ h λ_ z=>by cases z⟩)
 ·exact .inr h
theorem zR {fs ls:List Nat}{k:Nat}(hk:k<ls.length):((fs++[ls[k]])++ls.eraseIdx k).Perm (fs++ls):=by
 rw[iy]
 refine List.Perm.append_left _ ?_
 have e:ls=ls.take k++ls[k] :: ls.drop (k+1):=by simp
 have e2:ls.eraseIdx k=ls.take k++ls.drop (k+1):=List.eraseIdx_eq_take_drop_succ _ _
 rw[e2]
 refine List.Perm.trans ?_ (List.Perm.of_eq e.symm)
 show(ls[k] :: (ls.take k++ls.drop (k+1))).Perm _
 exact List.perm_middle.symm
theorem aJD {k n:Nat}(h:k<n):AW (k:Int) n=some k:=by
 have e:AW (k:Int) n=if(decide (0<=(if(k:Int)<0 then(k:Int)+(n:Int) else(k:Int))) && decide ((if(k:Int)<0 then(k:Int)+(n:Int) else(k:Int))<(n:Int)))=true then some (if(k:Int)<0 then(k:Int)+(n:Int) else(k:Int)).toNat else none:=rfl
 rw[e]
 simp only[show ¬ (k:Int)<0 by omega,if_false]
 rw[if_pos (by simp;omega)]
 rfl
theorem uV {α β:Type}(f:α->β):∀(l:List α) (k:Nat),(l.map f).eraseIdx k=(l.eraseIdx k).map f
 |[],_=>rfl
 |_ :: _,0=>rfl
 |a :: l,k+1=>by
  show f a :: (l.map f).eraseIdx k=f a :: (l.eraseIdx k).map f
  rw[uV f l k]
section
variable {K:aa}{H:Hp}
theorem aGu {xs:List V}{v:V}(hj:xs[xs.length - 1]?=some v):atI xs (-1)=some v:=by
 have hl:xs.length - 1<xs.length:=(au.mp hj).1
 unfold atI ixN
 rw[if_neg (by decide),if_pos (by omega),show((-1:Int)+(xs.length:Int)).toNat=xs.length - 1 by omega]
 exact hj
theorem yZ {p:Addr}{xs:List V}{v:V}{Q:VK}(h:SqT K H p xs)(hj:xs[xs.length - 1]?=some v)(q:Q v H):bO K (.ref p) (.int (-1)) H Q := .inr ⟨p,xs,-1,v,rfl,rfl,h,aGu hj,q⟩
end
theorem aBb {c:Int}{n:Nat}(h:1<=n):∃k:Nat,c % (n:Int)=(k:Int)/\k<n:=by
 have g0:=zx c (show(n:Int)≠0 by omega)
 have g1:=Int.emod_lt_of_pos c (show(0:Int)<(n:Int) by omega)
 obtain⟨k,hk⟩:=yf g0
 exact⟨k,hk,by omega⟩
theorem aJx {ps:List Nat}{i:Nat}(h:i<ps.length):(ps.map bW)[i]?=some (bW (ps.getD i 0)):=by
 rw[az,aj,ah h]
 rfl
def Rows (K:aa) (H:Hp) (xs:List V) (T:List (List Int)):Prop:=xs.length=T.length/\∀(i:Nat) (row:List Int),T[i]?=some row->∃b,xs[i]?=some (.ref b)/\SqT K H b (row.map V.int)
section
variable {K:aa}{H H':Hp}{xs:List V}{T:List (List Int)}
theorem Rows.map (h:Rows K H xs T)(f:∀b row,SqT K H b row->SqT K H' b row):Rows K H' xs T:=⟨h.1,λi row e=>by
 obtain⟨b,e1,e2⟩:=h.2 i row e
 exact⟨b,e1,f _ _ e2⟩⟩
theorem Rows.same (h:Rows K H xs T)(e:Same H H'):Rows K H' xs T:=h.map λ_ _ s=>e.tup s
theorem Rows.put (h:Rows K H xs T){l:Addr}{ys:List V}{o:HO}(hl:H l=some (.lst ys)):Rows K (upd H l o) xs T:=h.map λ_ _ s=>dJ s hl
theorem Rows.nil:Rows K H [] []:=⟨rfl,λi row e=>by cases e⟩
theorem Rows.snoc (h:Rows K H xs T){b:Addr}{r:List Int}(hb:SqT K H b (r.map V.int)):Rows K H (xs++[.ref b]) (T++[r]):=by
 refine⟨by rw[ao,ao,h.1];rfl,λi row e=>?_⟩
 by_cases hi:i<T.length
 ·rw[cm hi] at e
  obtain⟨b',e1,e2⟩:=h.2 i row e
  exact⟨b',by rw[cm (by rw[h.1];exact hi)];exact e1,e2⟩
 ·rw[dh (by omega)] at e
  have:i - T.length=0:=by
   rcases hk:i - T.length with _ | k
   ·rfl
   ·rw[hk] at e;cases e
  rw[this] at e
  cases e
  exact⟨b,by rw[dh (by rw[h.1];omega),h.1,this];rfl,hb⟩
end
end L2
namespace L2
open PySem PySem.Spec PyProof.Rows
section
variable {prog:Program}{w:World}{A:Around}{E:Value->Shared->Prop}{s:Shared}
end
end L2
namespace L2
open PySem
section
variable {X:Cx}{es:List Expr}{te:TE}{t:TA}
theorem aS {c:Const}{k:Nat}{p:Pos}(ha:PE X (.Constant c k p) te)(hr:PA X es t):PA X (.Constant c k p :: es) (aC te t):=cA ha hr
theorem aA {n:Str}{p:Pos}(ha:PE X (.Name n p) te)(hr:PA X es t):PA X (.Name n p :: es) (aC te t):=cA ha hr
theorem mC {l:List Expr}{k:Nat}{p:Pos}(ha:PE X (.Tuple l k p) te)(hr:PA X es t):PA X (.Tuple l k p :: es) (aC te t):=cA ha hr
theorem cG {a b:Expr}{o:Operator}{p:Pos}(ha:PE X (.BinOp a o b p) te)(hr:PA X es t):PA X (.BinOp a o b p :: es) (aC te t):=cA ha hr
theorem rQ {a:Expr}{o:UnaryOp}{p:Pos}(ha:PE X (.UnaryOp o a p) te)(hr:PA X es t):PA X (.UnaryOp o a p :: es) (aC te t):=cA ha hr
theorem cM {a b:Expr}{p:Pos}(ha:PE X (.Subscript a b p) te)(hr:PA X es t):PA X (.Subscript a b p :: es) (aC te t):=cA ha hr
theorem aX {a:Expr}{l:List Expr}{kw:List Keyword}{p:Pos}(ha:PE X (.Call a l kw p) te)(hr:PA X es t):PA X (.Call a l kw p :: es) (aC te t):=cA ha hr
end
mutual
def aJN:Dt->Bool
 | .tup ds=>decide (ds.length<64) && aGd ds
 | .lst ds=>aGd ds
 |_=>true
def aGd:List Dt->Bool
 |[]=>true
 |d :: ds=>aJN d && aGd ds
end
def okM (m e:Nat) (d:Dt):Prop:=(toP d).showable=true/\(toP d).leavesShort 1930=true/\(toP d).bulk<=m/\dep d<=e/\aJN d=true
def Am (K:aa) (H:Hp) (m e:Nat) (x:V):Prop:=∃d,Sh K H d x/\okM m e d
def Goo (K:aa) (H:Hp) (v:V):Prop:=∃d,Sh K H d v/\okR d/\aJN d=true
section
variable {K:aa}{H H':Hp}
theorem Am.same {m e:Nat}{x:V}(s:Same H H'):Am K H m e x->Am K H' m e x:=λ⟨d,h,o⟩=>⟨d,h.same s,o⟩
theorem Goo.same {v:V}(s:Same H H'):Goo K H v->Goo K H' v:=λ⟨d,h,o⟩=>⟨d,h.same s,o⟩
def Tu (K:aa) (H:Hp) (m e k:Nat) (v:V):Prop:=∃a xs,v = .ref a/\SqT K H a xs/\xs.length<=k/\∀x∈xs,Am K H m e x
theorem Tu.same {m e k:Nat}{v:V}(s:Same H H'):Tu K H m e k v->Tu K H' m e k v:=λ⟨a,xs,h1,h2,h3,h4⟩=>⟨a,xs,h1,s.tup h2,h3,λx hx=>(h4 x hx).same s⟩
end
theorem xB {c:Int}{n k:Nat}{H:Hp}{Q:VK}(h:1<=n)(e:c % (n:Int)=(k:Int))(q:Q (.int (k:Int)) H):sI (.int c) (.int (n:Int)) H Q:=⟨_,_,rfl,rfl,by omega,by show Q (.int (c % (n:Int))) H;rw[e];exact q⟩
end L2
namespace L2
open PySem PySem.Spec PyProof.Rows
inductive lE:List (Value×Value)->List (Int×Int)->Prop
 |nil:lE [] []
 |cons (a b:Int) (t u:Tok) {r:List (Value×Value)}{zs:List (Int×Int)}:lE r zs->lE ((.int a t, .int b u) :: r) ((a,b) :: zs)
def zF (f:Bool):List (Int×Int)->Bool
 |[]=>f
 | (a,b) :: r=>if a=b then zF f r else decide (a<b)
theorem nV {prog:Program}{w:World}{A:Around}{E:Value->Shared->Prop}{s:Shared}{a b:Int}{t u:Tok}{Q:Value->Shared->Prop}(h:Q (.bool (decide (a<b))) s):wpAny (model prog w) A (qb .Lt (.int a t) (.int b u)) Q E s:=lt_int h
theorem aCT (l b:Addr)(us vs:Array Value)(n n2:Nat)(dd dd2:Option Addr)(sl sl2:Array (Option Value))(zs:List (Int×Int))(hz:lE (us.toList.zip vs.toList) zs) :
  Meets (Builtin.«tuple.__lt__» ⟨[.ref l, .ref b],[]⟩)
   (λ_ R s=>s.heap.get? l=some { cls := .type "tuple",dict:=dd,data := .seq us n,slots:=sl }/\s.heap.get? b=some { cls := .type "tuple",dict:=dd2,data := .seq vs n2,slots:=sl2 }/\R (.ok (.ret (.bool (zF (decide (us.size<vs.size)) zs)))) s):=
 .of_wp λprog w A R s h=>by
  obtain⟨s1,s2,s3,s4,s5⟩:=s
  obtain⟨gl,gb,h⟩:=h
  have f2:=qj
  wp_walk using jg gl,jg gb,yt _ (λrest b s'=>b.1=none/\s'=⟨s1,s2,s3,s4,s5⟩/\∃ys,lE rest ys/\R (.ok (.ret (.bool (zF (decide (us.size<vs.size)) ys)))) ⟨s1,s2,s3,s4,s5⟩) _
  case turn=>
   rintro⟨y,x⟩ rest b s' ⟨hb',rfl,ys,hy,hR⟩
   cases hy with
   |cons p q t u hr=>
    refine af (ug ?_)
    by_cases e:p=q
    ·rw[show(p == q)=true by simpa using e]
     rw[zF,if_pos e] at hR
     wp_walk
     exact⟨rfl,rfl,_,hr,hR⟩
    ·rw[show(p == q)=false by simpa using e]
     rw[zF,if_neg e] at hR
     wp_walk using nV
     exact⟨_,rfl,hR⟩
  case fin=>
   rintro⟨b1,b2⟩ s' ⟨hb',rfl,ys,hy,hR⟩
   simp only at hb'
   subst hb'
   cases hy
   wp_walk
   exact⟨_,rfl,hR⟩
  case h=>
   exact⟨rfl,rfl,zs,hz,h⟩
section
variable {prog:Program}{w:World}{A:Around}{R:Bs->Shared->Prop}{It:Addr}{fp wr:List Addr}{n:Nat}{P:Nat->Value->Prop}{St:Nat->Heap->Prop}
def aJR (prog:Program) (w:World) (A:Around) (kp:Heap->Prop) (P:Nat->Value->Prop) (bt:Nat->Nat->Bool):Prop:=
 ∀i j x y (s:Shared) (Q:Value->Shared->Prop) (E:Value->Shared->Prop),kp s.heap->P i x->P j y->Q (.bool (bt i j)) s->wpAny (model prog w) A (qb .Lt x y) Q E s
def Kp (kp:Heap->Prop) (wr:List Addr) (z:Addr):Prop:=∀h h',kp h->(∀b o,b∉wr->b≠z->h.get? b=some o->h'.get? b=some o)->kp h'
theorem aEd (W:Walks prog w A.in1 It fp wr n P St)(bt:Nat->Nat->Bool){kp:Heap->Prop}(z:Addr)(hz:z∉fp)(kk:Kp kp wr z)(hc:aJR prog w A.in1 kp P bt) :
  ∀(k j:Nat) (s:Shared) (x:Value) (c:Nat),n - (j+1)=k->j+1<=n->kp s.heap->St (j+1) s.heap->P (ju bt j) x->s.heap.get? z=some { cls := .type "list",dict:=none,data := .seq #[x,x] c,slots:=#[] } ->
  (∀v h' tk,P (ju bt (n - 1)) v->(∀b o,b∉wr->b≠z->s.heap.get? b=some o->h'.get? b=some o)->R (.ok (.ret v)) { s with heap:=h',toks:=tk }) ->
  vg (model prog w) A (.builtin "min.loop" ⟨[.ref It, .none, .ref z],[]⟩) R s:=by
 have zw:z∉wr:=λh=>hz (W.sub _ h)
 have nm:(ra "min" ++ ra ".loop" : String)="min.loop":=by decide
 intro k
 induction k with
 |zero=>
  intro j s x c hk hj kp0 st px gz hR
  have en:j+1=n:=by omega
  refine jy yu ?g
  case g=>
  rw[j6 k8 _];show wpAny _ A.in1 (vp (.ref z) >>= _) _ _ s;refine af (fm gz rfl ?g)
  case g=>
  show wpAny _ A.in1 (yg (wd (.ref It)) _ >>= _) _ _ s;refine af (l8 (W.done s _ _ (en ▸ st) λh' tk kh=>?g))
  case g=>
  show wpAny _ A.in1 (By z (λ_=>#[]) >>= _) _ _ _;refine af (mi (kh z _ zw gz) rfl (af (kg (aq ?g))))
  case g=>
  exact hR x _ tk (by rw[<- en];exact px) λb o bw bz e=>(ig _ _ (jh bz)).trans (kh b o bw e)
 |succ k ih=>
  intro j s x c hk hj kp0 st px gz hR
  have lt:j+1<n:=by omega
  refine jy yu ?g
  case g=>
  rw[j6 k8 _];show wpAny _ A.in1 (vp (.ref z) >>= _) _ _ s;refine af (fm gz rfl ?g)
  case g=>
  show wpAny _ A.in1 (yg (wd (.ref It)) _ >>= _) _ _ s;refine af (l8 (W.item (j+1) s _ _ lt st λv h' tk pv st' kh=>?g))
  case g=>
  have gz':=kh z _ zw gz
  have kp1:kp h':=kk _ _ kp0 λb o bw _ e=>kh b o bw e
  show wpAny _ A.in1 (yg (ya [v,v] (qb .Lt v x >>= _)) _ >>= _) _ _ _;refine af (l8 (ef (af (hc (j+1) (ju bt j) v x _ _ _ kp1 pv px ?g))))
  case g=>
  refine af (ef (iw (af (kg (aq ?g)))))
  case g=>
  cases hb:bt (j+1) (ju bt j) with
  |true=>
   simp only[if_true];refine af (mi gz' rfl (af (kg ?g)))
   case g=>
   have up:∀b o,b≠z->h'.get? b=some o->(h'.update z (fv λ_=>#[v,v])).get? b=some o:=λb o bz e=>(ig _ _ (jh bz)).trans e
   rw[nm];refine aq ⟨ng k8 _,ih (j+1) _ v _ (by omega) lt (kk _ _ kp1 λb o _ bz e=>up b o bz e) (W.frame _ _ _ st' λb bf o e=>up b o (λq=>hz (by rw[<- q];exact bf)) e) (by simp only[ju,hb,if_true];exact pv) (jx _ gz' rfl) λv' h2 tk2 pv' kh2=>?g⟩
   case g=>
   exact hR v' h2 tk2 pv' λb o bw bz e=>kh2 b o bw bz (up b o bz (kh b o bw e))
  |false=>
   simp only[dq,if_false];refine af (kg ?g)
   case g=>
   rw[nm];refine aq ⟨ng k8 _,ih (j+1) _ x c (by omega) lt kp1 st' (by simp only[ju,hb,dq,if_false];exact px) gz' λv' h2 tk2 pv' kh2=>?g⟩
   case g=>
   exact hR v' h2 tk2 pv' λb o bw bz e=>kh2 b o bw bz (kh b o bw e)
theorem aLo (W:Walks prog w A.in1 It fp wr n P St)(bt:Nat->Nat->Bool){kp:Heap->Prop}(z:Addr)(hz:z∉fp)(kk:Kp kp wr z)(hc:aJR prog w A.in1 kp P bt)(hn:0<n){s:Shared}{c:Nat}(kp0:kp s.heap)(st:St 0 s.heap)(gz:s.heap.get? z=some { cls := .type "list",dict:=none,data := .seq #[] c,slots:=#[] })
  (hR:∀v h' tk,P (ju bt (n - 1)) v->(∀b o,b∉wr->b≠z->s.heap.get? b=some o->h'.get? b=some o)->R (.ok (.ret v)) { s with heap:=h',toks:=tk }) :
  vg (model prog w) A (.builtin "min.loop" ⟨[.ref It, .none, .ref z],[]⟩) R s:=by
 have zw:z∉wr:=λh=>hz (W.sub _ h)
 have nm:(ra "min" ++ ra ".loop" : String)="min.loop":=by decide
 refine jy yu ?g
 case g=>
 rw[j6 k8 _];show wpAny _ A.in1 (vp (.ref z) >>= _) _ _ s;refine af (fm gz rfl ?g)
 case g=>
 show wpAny _ A.in1 (yg (wd (.ref It)) _ >>= _) _ _ s;refine af (l8 (W.item 0 s _ _ hn st λv h' tk pv st' kh=>?g))
 case g=>
 have gz':=kh z _ zw gz
 have kp1:kp h':=kk _ _ kp0 λb o bw _ e=>kh b o bw e
 have up:∀b o,b≠z->h'.get? b=some o->(h'.update z (fv λ_=>#[v,v])).get? b=some o:=λb o bz e=>(ig _ _ (jh bz)).trans e
 show wpAny _ A.in1 (By z (λ_=>#[v,v]) >>= _) _ _ _;refine af (mi gz' rfl ?g)
 case g=>
 rw[nm];refine aq ⟨ng k8 _,aEd W bt z hz kk hc _ 0 _ v _ rfl hn (kk _ _ kp1 λb o _ bz e=>up b o bz e) (W.frame _ _ _ st' λb bf o e=>up b o (λq=>hz (by rw[<- q];exact bf)) e) pv (jx _ gz' rfl) λv' h2 tk2 pv' kh2=>?g⟩
 case g=>
 exact hR v' h2 tk2 pv' λb o bw bz e=>kh2 b o bw bz (up b o bz (kh b o bw e))
end
section
variable {prog:Program}{w:World}{A:Around}{E:Value->Shared->Prop}{s:Shared}
theorem aAi {x:Value}{Q:Value->Shared->Prop}
  (h:wpAny (model prog w) A.in1 (Bd x) (λit s₂=>∃It fp wr n P St bt,∃kp:Heap->Prop,it = .ref It/\Walks prog w A.in1 It fp wr n P St/\St 0 s₂.heap/\(∀b∈fp,b<s₂.heap.objs.size)/\0<n/\kp s₂.heap/\(∀z,s₂.heap.objs.size<=z->Kp kp wr z)/\aJR prog w A.in1 kp P bt /\
   ∀v h' tk,P (ju bt (n - 1)) v->(∀b o,b∉wr->s₂.heap.get? b=some o->h'.get? b=some o)->Q v { s₂ with heap:=h',toks:=tk }) E s) :
  wpAny (model prog w) A (call (.builtin "min") [x]) Q E s:=by
 have nm:(ra "min" ++ ra ".loop" : String)="min.loop":=by decide
 refine call_function_tree F.kind_min F.plain_min F.entry_min (F.args_min1 _) ?g
 case g=>
 show wpAny _ A.in1 (ki "min" ["key","default"] 0 ⟨[],[]⟩ >>= _) _ _ s;refine af (ye (show ki "min" ["key","default"] 0 ⟨[],[]⟩=pure [none,none] from rfl) (af (aq (af (fz h (λit s2 h2=>?g) λ_ _ e=>e)))))
 case g=>
 obtain⟨It,fp,wr,n,P,St,bt,kp,rfl,W,st,hf,hn,kp0,kk,hc,hQ⟩:=h2
 refine af (fb ?g)
 case g=>
 have zf:s2.heap.objs.size∉fp:=λm=>j7 _ (hf _ m)
 have kz:=kk s2.heap.objs.size (ay _)
 rw[nm];refine aq ⟨ng k8 _,aLo W bt s2.heap.objs.size zf kz hc hn (kz _ _ kp0 λb o _ _ e=>ak _ e) (W.frame _ _ _ st λb _ o e=>ak _ e) (bg _ rfl) λv h' tk pv kh=>?g⟩
 case g=>
 exact hQ v h' tk pv λb o bw e=>kh b o bw (df (br e)) (ak _ e)
end
def dA:List Int->List Int->Bool
 |[],[]=>false
 |[],_ :: _=>true
 |_ :: _,[]=>false
 |a :: r,b :: q=>if a=b then dA r q else decide (a<b)
theorem wN:∀(ns ms:List Int),zF (decide (ns.length<ms.length)) (ns.zip ms)=dA ns ms
 |[],[]=>rfl
 |[],m :: ms=>by simp[zF,dA]
 |n :: ns,[]=>by simp[zF,dA]
 |n :: ns,m :: ms=>by
  rw[rb,zF,dA,<- wN ns ms]
  have:decide ((n :: ns).length<(m :: ms).length)=decide (ns.length<ms.length):=by
   by_cases h:ns.length<ms.length <;> simp[h]
  rw[this]
theorem fO:∀ns:List Int,dA ns ns=false
 |[]=>rfl
 |n :: ns=>by rw[dA,if_pos rfl];exact fO ns
theorem fB:∀{a b c:List Int},dA a b=true->dA b c=true->dA a c=true
 |[],[],_,h,_=>by cases h
 |[],_ :: _,[],_,h=>by cases h
 |[],_ :: _,_ :: _,_,_=>rfl
 |_ :: _,[],_,h,_=>by cases h
 |_ :: _,_ :: _,[],_,h=>by cases h
 |x :: a,y :: b,z :: c,h1,h2=>by
  rw[dA] at h1 h2 ⊢
  by_cases e1:x=y <;> by_cases e2:y=z
  ·subst e1 e2
   rw[if_pos rfl] at h1 h2 ⊢
   exact fB h1 h2
  ·subst e1
   rw[if_neg e2] at h2 ⊢
   exact h2
  ·subst e2
   rw[if_neg e1] at h1 ⊢
   exact h1
  ·rw[if_neg e1] at h1
   rw[if_neg e2] at h2
   have g1:=of_decide_eq_true h1
   have g2:=of_decide_eq_true h2
   rw[if_neg (by omega)]
   exact decide_eq_true (by omega)
theorem fN {bt:Nat->Nat->Bool}(irr:∀i,bt i i=false)(tr:∀i j k,bt i j=true->bt j k=true->bt i k=true):∀k j,j<=k->bt j (ju bt k)=false
 |0,j,h=>by
  obtain rfl:j=0:=by omega
  exact irr 0
 |k+1,j,h=>by
  unfold ju
  by_cases c:bt (k+1) (ju bt k)=true
  ·rw[if_pos c]
   by_cases e:j=k+1
   ·subst e;exact irr _
   ·refine Bool.eq_false_iff.mpr λq=>?_
    have:=fN irr tr k j (by omega)
    rw[tr _ _ _ q c] at this
    cases this
  ·rw[if_neg c]
   by_cases e:j=k+1
   ·subst e;simpa using c
   ·exact fN irr tr k j (by omega)
theorem aCi:∀{ns ms:List Int}{us vs:List Value},IntsAre us ns->IntsAre vs ms->lE (us.zip vs) (ns.zip ms)
 |[],_,_,_,h,_=>by cases h;exact .nil
 |_ :: _,[],_,_,h,g=>by cases g;cases h;exact .nil
 |n :: ns,m :: ms,_,_,h,g=>by
  cases h with
  |cons _ t h=>
   cases g with
   |cons _ u g=>exact .cons n m t u (aCi h g)
theorem aCl {prog:Program}{w:World}{A:Around}{E:Value->Shared->Prop}{s:Shared}{a b:Addr}{us vs:List Value}{ns ms:List Int}{Q:Value->Shared->Prop}(hu:A.units<cLine)(ha:IsTup s.heap a us.toArray)(hb:IsTup s.heap b vs.toArray)(h1:IntsAre us ns)(h2:IntsAre vs ms)(q:Q (.bool (dA ns ms)) s) :
  wpAny (model prog w) A (qb .Lt (.ref a) (.ref b)) Q E s:=by
 obtain⟨⟨oc,od,odt,osl⟩,e1,c1,n1,d1⟩:=ha
 obtain⟨⟨pc,pd,pdt,psl⟩,e2,c2,n2,d2⟩:=hb
 subst c1 d1 c2 d2
 refine y9 (op := .Lt) ⟨_,e1,rfl⟩ ⟨_,e2,rfl⟩ F.slot_tuple_lt F.entry_tuple_lt (F.args_tuple_lt_2 _ _) (aCT a b us.toArray vs.toArray n1 n2 od pd osl psl (ns.zip ms) (aCi h1 h2)) ⟨e1,e2,?g⟩ hu
 case g=>
 have l1:=IntsAre.len h1
 have l2:=IntsAre.len h2
 rw[av,av,l1,l2,wN]
 exact⟨λz=>(by cases z),q⟩
def aGD (K:aa):List V->Hp->VK->Prop:=λvs H Q=>∃(a:Addr) (xs:List V) (T:List (List Int)),vs=[.ref a]/\Sq K H a xs/\Rows K H xs T/\T≠[]/\∀(i:Nat) (b:Addr) (row:List Int),xs[i]?=some (.ref b)->T[i]?=some row->SqT K H b (row.map V.int)->(∀r∈T,dA r row=false)->Q (.ref b) H
theorem aCO {X:Cx}{k:Nat}(hr:Room k X.A)(hc:X.calm=true):CallR X (.builtin "min") (aGD X.K):=by
 intro pins s σ H vs us Q I r ⟨a,xs,T,e,hq,hR,hne,q⟩
 subst e
 obtain⟨u,rfl,ru⟩:=r.one
 obtain rfl:u=Value.ref a:=ru
 refine aAi (jF (I.ok.hd hc) I hq λits It fp wr S s2 rv hz W st hf hI=>?g)
 case g=>
 have hl:its.length=T.length:=by rw[<- rv.length,hR.1]
 have hpos:0<T.length:=vm.mpr hne
 have item:∀(i:Nat) (v:Value),its[i]?=some v->∃b row,v = .ref b/\T[i]?=some row/\xs[i]?=some (.ref b)/\SqT X.K H b (row.map V.int):=λi v hv=>by
  obtain⟨x,hx,rx⟩:=rv.getR hv
  have hi:i<T.length:=by rw[<- hR.1];exact(au.mp hx).1
  obtain⟨b,e1,e2⟩:=hR.2 i _ (ah hi)
  rw[e1] at hx
  cases hx
  exact⟨b,_,rx,ah hi,e1,e2⟩
 refine⟨It,fp,wr,its.length,_,S,λi j=>dA (T.getD i []) (T.getD j []),λh=>∀b o,b∉wr->s2.heap.get? b=some o->h.get? b=some o,rfl,W,st,hf,by omega,λb o _ e=>e,λz hz0 h h' k1 k2 b o bw e=>k2 b o bw (λq0=>Nat.not_lt.mpr hz0 (q0 ▸ br e)) (k1 b o bw e),λi j vi vj s' Q' E' kp hi hj hQ'=>?g,λv h' tk hv hk=>?h⟩
 case g=>
  obtain⟨b1,r1,rfl,t1,_,q1⟩:=item i vi hi
  obtain⟨b2,r2,rfl,t2,_,q2⟩:=item j vj hj
  have I':=hI s'.heap s'.toks kp
  obtain⟨us1,v1,p1,_⟩:=I'.tuple q1
  obtain⟨us2,v2,p2,_⟩:=I'.tuple q2
  refine aCl (ns:=r1) (ms:=r2) (us:=us1) (vs:=us2) (by have:=hr.un;show X.A.units+1<cLine;omega) p1 p2 (dE v1) (dE v2) ?g
  case g=>
  have e1:T.getD i []=r1:=by rw[aj,t1];rfl
  have e2:T.getD j []=r2:=by rw[aj,t2];rfl
  have hQ2:Q' (Value.bool (dA (T.getD i []) (T.getD j []))) s':=hQ'
  rw[e1,e2] at hQ2
  exact hQ2
 case h=>
  obtain⟨b,row,rfl,t1,e1,q1⟩:=item _ v hv
  refine⟨.ref b,H,hI h' tk hk,rfl,q _ b row e1 t1 q1 λr0 hr0=>?g⟩
  case g=>
  obtain⟨j,hj,rfl⟩:=iq hr0
  have:=fN (bt:=λi j=>dA (T.getD i []) (T.getD j [])) (λi=>fO _) (λi j k=>fB) (its.length - 1) j (by omega)
  have e1:T.getD j []=T[j]:=by rw[aj,ah hj];rfl
  have e2:T.getD (ju (λi j=>dA (T.getD i []) (T.getD j [])) (its.length - 1)) []=row:=by rw[aj,t1];rfl
  have g:dA (T.getD j []) (T.getD (ju (λi j=>dA (T.getD i []) (T.getD j [])) (its.length - 1)) [])=false:=this
  rw[e1,e2] at g
  exact g
theorem aAf {X:Cx}{K:aa}{k:Nat}(hK:X.K=K)(hr:Room k X.A)(hc:X.calm=true):CallR X (.builtin "min") (aGD K):=by subst hK;exact aCO hr hc
abbrev aFC (K:aa):List V->Hp->VK->Prop:=λvs H Q=>aKO K vs H Q\/aGD K vs H Q
theorem pS {X:Cx}{K:aa}{k:Nat}(hK:X.K=K)(hr:Room k X.A)(hc:X.calm=true):CallR X (.builtin "min") (aFC K):=by
 intro pins s σ H vs us Q I r h
 rcases h with h | h
 ·exact aCp hK hc pins s σ H vs us Q I r h
 ·exact aAf hK hr hc pins s σ H vs us Q I r h
abbrev vK:List V->Hp->VK->Prop:=λxs H Q=>(∃i,xs=[.int i]/\Q (.int i) H)\/∃k,xs=[.bl k]/\Q (.int (if k then 1 else 0)) H
theorem fA {X:Cx}:CallR X (.type "int") vK:=aCw
section
variable {prog:Program}{w:World}{A:Around}{E:Value->Shared->Prop}{s:Shared}
end
section
variable {prog:Program}{w:World}{A:Around}{E:Value->Shared->Prop}{s:Shared}
end
end L2
namespace L2
open PySem
theorem aGn {X:Cx}{K:aa}{o:Expr}{to:TE}{name:Str}{apos cpos:Pos}{T id:String}{r:V->List V->Hp->VK->Prop}(hK:X.K=K)(pa:PlainAttrs T)(slot:Slot T name id)(hty:typeOf (.builtin id)=pure (.type "method_descriptor"))(hm:MtM X id r)(ho:PE X o to)
  (b1:qu o name X.env (eval o X.env)=eval o X.env:=by rfl) (b2:(apos.endLine == cpos.line)=true:=by rfl) :
  PE X (.Call (.Attribute o name apos) [] [] cpos) (aKr K T r to):=by subst hK;exact aIO pa slot hty hm ho b1 b2
end L2
namespace L2
open PySem PySem.Spec PyProof.Rows
section
variable {prog:Program}{w:World}{A:Around}{E:Value->Shared->Prop}{s:Shared}
end
section
variable {X:Cx}
end
end L2
namespace L2
open PySem
section
variable {X:Cx}
end
end L2
namespace L2
open PySem PySem.Spec PyProof.Rows
section
variable {prog:Program}{w:World}{A:Around}{E:Value->Shared->Prop}{s:Shared}
end
section
variable {X:Cx}
end
section
variable {X:Cx}
end
end L2
namespace L2
open PySem
structure aLg (mg:Str->Option Value):Prop extends aLh mg where
 set:mg "set" = none
section
variable {X:Cx}
def aJd (K:aa) (ta:TE):TT:=λσ H Q=>ta σ H λx H'=>∃k,aHt K x H' k/\Q k H'
theorem aBh {K:aa}{a:Expr}{ta:TE}(hK:X.K=K)(ha:PE X a ta)(he:∀whole,isTrue a X.env whole=(do let v <- whole;Az a.pos;ya [v] (truthy v))):PT X a (aJd K ta):=by
 subst hK
 exact aDh ha he
end
structure aKB (mg:Str->Option Value):Prop extends aLg mg where
 abs:mg "abs" = none
theorem aEn:ei "abs" = some (.builtin "abs"):=by decide+kernel
def aJT:List V->Hp->VK->Prop:=λxs H Q=>∃i:Int,xs=[.int i]/\Q (.int (if i<0 then -i else i)) H
theorem tQ {X:Cx}:CallR X (.builtin "abs") aJT:=aDy
section
variable {vars:List Nat}{tb:TS}{acc a:Addr}{σ:St}{H:Hp}{j:Nat}{D:hU}{K:aa}
theorem aAj {lo:Int}{n:Nat}(p:Addr)(R:Nat->List V->Hp->Prop)(hj:j∈vars)(hjl:j<σ.length)(h0:R 0 [] (upd H acc (.lst [])))(ha:H acc=none)
  (h:∀i σ' H' L (D:hU),i<n->σ'.length=σ.length->Agree vars σ σ'->σ'[j]?=some (some (.int (lo+(i:Int))))->SameX p H H'->H' acc=some (.lst L)->R i L H' ->
   (∀σ'' H'' L',σ''.length=σ.length->Agree vars σ σ''->SameX p H H''->H'' acc=some (.lst L')->R (i+1) L' H''->D.nx σ'' H'')->tb D σ' H')
  (q:∀σ' H' L,SameX p H H'->H' acc=some (.lst L)->R n L H'->D.nx σ' H'):eK (Itr lo n) (aI j) tb D σ (upd H acc (.lst [])):=by
 refine bP (lo:=lo) (n:=n) (g:=aI j) (D:=D) (λi σ' H'=>i<=n/\σ'.length=σ.length/\Agree vars σ σ'/\SameX p H H'/\∃L,H' acc=some (.lst L)/\R i L H') ⟨bc _,rfl,Agree.refl _ _,(aG ha _).x,[],aD,h0⟩ (λi σ1 H1 hi ⟨_,hl1,ag1,sx1,L,h1,r1⟩=>?_) λσ1 H1 ⟨_,_,_,sm,L,h1,r1⟩=>q σ1 H1 L sm h1 r1
 exact h i (σ1.set j (some (.int (lo+(i:Int))))) H1 L _ hi (by rw[dg];exact hl1) (ag1.trans (Agree.set hj _)) (eW (by omega)) sx1 h1 r1 λσ2 H2 L' hl2 ag2 sm2 h2 r2=>⟨hi,hl2,ag2,sm2,L',h2,r2⟩
end
def EmR (K:aa) (vars:List Nat) (tb:TS) (acc:Addr) (σ:St) (H:Hp) (L:List (List Int)):Prop:=
 ∀(D:hU) (pre:List V) (R:List (List Int)),H acc=some (.lst pre)->Rows K H pre R->R.length+L.length<=100000->(∀σ' H' pre',σ'.length=σ.length->Agree vars σ σ'->SameX acc H H'->H' acc=some (.lst pre')->Rows K H' pre' (R++L)->D.nx σ' H')->tb D σ H
section
variable {K:aa}{vars:List Nat}{tb:TS}{acc:Addr}{σ:St}{H:Hp}
theorem EmR.cast {L L':List (List Int)}(h:EmR K vars tb acc σ H L)(e:L=L'):EmR K vars tb acc σ H L':=e ▸ h
theorem aGg {ta:TA}{r:List Int}(hr:r.length<=100)(h:∀Q:List V->Hp->Prop,Q (r.map V.int) H->ta σ H Q):EmR K vars (cP (gX ta) acc) acc σ H [r]:=by
 intro D pre R ha hR hz hd
 refine h _ ⟨by rw[ai];exact cg hr (by decide),λt ht=>?_⟩
 have st:=aG ht (.tup (r.map V.int))
 have ha':=st _ _ ha
 refine⟨pre,ha',cw (show pre.length<=100000 by rw[hR.1];omega) (by decide),?_⟩
 exact hd σ _ _ rfl (Agree.refl _ _) (st.x.trans (SameX.put _)) aD (Rows.snoc (Rows.put (hR.same st) ha') (dJ (.of aD) ha'))
theorem aEg:EmR K vars aQ acc σ H []:=by
 intro D pre R ha hR hz hd
 exact hd σ H pre rfl (Agree.refl _ _) (SameX.refl _ _) ha (by rw[ke];exact hR)
theorem aIP {tc:TT}{c:Bool}{L:List (List Int)}(h:∀Q:Bool->Hp->Prop,Q c H->tc σ H Q)(hb:c=true->EmR K vars tb acc σ H L):EmR K vars (gP tc tb aQ) acc σ H (if c=true then L else[]):=by
 intro D pre R ha hR hz hd
 refine h _ ?_
 cases c with
 |true=>exact aHN (hb rfl D pre R ha hR hz hd)
 |false=>exact aHa (aEg D pre R ha hR hz hd)
theorem xW {lo:Int}{n j:Nat}{L:Nat->List (List Int)}(hj:j∈vars)(hjl:j<σ.length)
  (h:∀i σ' H',i<n->σ'.length=σ.length->Agree vars σ σ'->σ'[j]?=some (some (.int (lo+(i:Int))))->SameX acc H H'->EmR K vars tb acc σ' H' (L i)) :
  EmR K vars (eK (Itr lo n) (aI j) tb) acc σ H ((aw n).flatMap L):=by
 intro D pre R ha hR hz hd
 refine bP (lo:=lo) (n:=n) (g:=aI j) (D:=D) (λi σ' H'=>i<=n/\σ'.length=σ.length/\Agree vars σ σ'/\SameX acc H H'/\∃pre',H' acc=some (.lst pre')/\Rows K H' pre' (R++(aw i).flatMap L)) ⟨bc _,rfl,Agree.refl _ _,SameX.refl _ _,pre,ha,by simpa using hR⟩ (λi σ1 H1 hi ⟨_,hl1,ag1,sx1,pre1,h1,r1⟩=>?_) λσ1 H1 ⟨_,hl1,ag1,sx1,pre1,h1,r1⟩=>hd σ1 H1 pre1 hl1 ag1 sx1 h1 r1
 have hle:=bX L (show i+1<=n from hi)
 rw[aO,ao] at hle
 refine h i (σ1.set j (some (.int (lo+(i:Int))))) H1 hi (by rw[dg];exact hl1) (ag1.trans (Agree.set hj _)) (eW (by omega)) sx1 _ pre1 _ h1 r1 (by rw[ao];omega) λσ' H' pre' hl ag sx h2 r2=>⟨hi,hl.trans ((dg ..).trans hl1),(ag1.trans (Agree.set hj _)).trans ag,sx1.trans sx,pre',h2,by rw[aO,<- iy];exact r2⟩
theorem vW {ti:TI}{lo:Int}{n j:Nat}{L:Nat->List (List Int)}(hti:∀R:It->Hp->Prop,R (Itr lo n) H->ti σ H R)(hj:j∈vars)(hjl:j<σ.length)
  (h:∀i σ' H',i<n->σ'.length=σ.length->Agree vars σ σ'->σ'[j]?=some (some (.int (lo+(i:Int))))->SameX acc H H'->EmR K vars tb acc σ' H' (L i)) :
  EmR K vars (iQ ti (aI j) tb) acc σ H ((aw n).flatMap L):=by
 intro D pre R ha hR hz hd
 exact hti _ (xW hj hjl h D pre R ha hR hz hd)
theorem xS (vars:List Nat)(L:List (List Int)){g:TG}{J:It}{D:hU}(ha:H acc=none)(hz:L.length<=100000)(h:EmR K vars (eK J g tb) acc σ (upd H acc (.lst [])) L)
  (q:∀σ' H' pre,Same H H'->H' acc=some (.lst pre)->Rows K H' pre L->D.nx σ' H'):eK J g tb D σ (upd H acc (.lst [])):=
 h _ [] [] aD Rows.nil (by simpa using hz) λσ' H' pre' _ _ sx h1 h2=>q σ' H' pre' (bR ha sx) h1 (by simpa using h2)
end
end L2
namespace L2
open PySem PySem.Spec PyProof.Rows
open PySem.SeqAt
def EqA (A:Around) (s:Shared) (u v:Value) (b:Bool):Prop:=∀(prog:Program) (w:World) (E:Value->Shared->Prop) (Q:Bool->Shared->Prop),Q b s->wpAny (model prog w) A (eqBool u v) Q E s
theorem rN:∀r:List Int,oI (r.map Dt.int)=0
 |[]=>rfl
 |a :: r=>by rw[b8,oI,rN r];rfl
theorem eQ:∀{r q:List Int},eqL (r.map Dt.int) (q.map Dt.int)=true->r=q
 |[],[],_=>rfl
 |[],_ :: _,h=>by simp[eqL] at h
 |_ :: _,[],h=>by simp[eqL] at h
 |a :: r,b :: q,h=>by
  rw[b8,b8,eqL,dv] at h
  have h1:a=b:=by have:=h.1;rw[eqD] at this;exact Bt this
  rw[h1,eQ h.2]
theorem vL:∀{us:List Value}{ns:List Int},IntsAre us ns->∀j (h:j<us.length),∃t,us[j] = .int (ns.getD j 0) t
 |_,_, .nil,j,h=>absurd h (zo _)
 |_,_, .cons n t h,0,_=>⟨t,rfl⟩
 |_,_, .cons n t h,j+1,hj=>by
  obtain⟨t',e⟩:=vL h j (by simpa using hj)
  exact⟨t',by simpa using e⟩
theorem xK:∀{us:List Value}{ns ms:List Int},IntsAre us ns->IntsAre us ms->ns=ms
 |_,_,_, .nil, .nil=>rfl
 |_,_,_, .cons n t h, .cons _ _ g=>by rw[xK h g]
theorem aFS {A:Around}{s:Shared}{c d:Addr}{us vs:List Value}{r q:List Int}(hu:A.units<cLine)(hc:IsTup s.heap c us.toArray)(hd:IsTup s.heap d vs.toArray)(h1:IntsAre us r)(h2:IntsAre vs q):EqA A s (.ref c) (.ref d) (eqL (r.map Dt.int) (q.map Dt.int)):=by
 by_cases hcd:c=d
 ·subst hcd
  have e:us=vs:=by
   obtain⟨o,e1,_,n,e2⟩:=hc
   obtain⟨o',e3,_,m,e4⟩:=hd
   rw[e1] at e3
   cases e3
   rw[e2] at e4
   have e5:us=vs/\n=m:=by simpa using e4
   exact e5.1
  subst e
  rw[xK h1 h2,gN]
  exact EqAt.same _
 ·have l1:=IntsAre.len h1
  have l2:=IntsAre.len h2
  have he:∀(j:Nat) (h1:j<us.toArray.size) (h2:j<vs.toArray.size),EqAt A.in1 s us.toArray[j] vs.toArray[j] (eqD ((r.map Dt.int).getD j .non) ((q.map Dt.int).getD j .non)):=λj g1 g2=>by
   have g1:j<us.length:=by simpa using g1
   have g2:j<vs.length:=by simpa using g2
   obtain⟨t1,e1⟩:=vL h1 j g1
   obtain⟨t2,e2⟩:=vL h2 j g2
   have q1:(r.map Dt.int).getD j .non = .int (r.getD j 0):=by
    rw[aj,az,aj,ah (by omega)]
    rfl
   have q2:(q.map Dt.int).getD j .non = .int (q.getD j 0):=by
    rw[aj,az,aj,ah (by omega)]
    rfl
   have e1':us.toArray[j] = .int (r.getD j 0) t1:=by simpa using e1
   have e2':vs.toArray[j] = .int (q.getD j 0) t2:=by simpa using e2
   rw[q1,q2,e1',e2',eqD]
   exact EqAt.int_int _ _ _ _
  have rc:=RcAt.tuples (A:=A) hc hd hu he
  rw[av,av,l1,l2] at rc
  have:=kF (r.map Dt.int) (q.map Dt.int)
  rw[ai,ai] at this
  rw[this] at rc
  exact EqAt.of_refs hcd rc
section
variable {X:Cx}{tg:Expr}
end
section
variable {X:Cx}{pins:List (Addr×Obj)}{σ:St}{H:Hp}{s:Shared}
theorem HOk.swap {P:Program}{w:World}{h:Heap}{d:Addr}{v u:HO}(ok:HOk P w H h)(hd:H d=some v)(hv1:∀xs,v ≠ .tup xs)(hv2:∀y,v ≠ .own y)(new:ObjOk P w (upd H d u) h d u):HOk P w (upd H d u) h:=λb o e=>by
 by_cases hb:b=d
 ·subst hb;rw[aD] at e;cases e;exact new
 ·rw[aL hb] at e
  refine(ok b o e).stay (λ_ _ _ q=>q) (λc q=>?_) λc xs q=>?_
  ·rw[aL (λz=>by subst z;rw[hd] at q;exact hv2 _ (da q))];exact q
  ·rw[aL (λz=>by subst z;rw[hd] at q;exact hv1 _ (da q))];exact q
theorem Inv.freeze {d:Addr}{kvs:List (Key×V)}{o:Obj}(I:Inv X pins σ H s)(hd:H d=some (.dK kvs))(ho:s.heap.get? d=some o):Inv X pins σ (upd H d (.frz o (.dK kvs))) s:=by
 have ne:∀b,H b=none->b≠d:=λb e z=>by subst z;rw[hd] at e;cases e
 refine I.step (h':=s.heap) (g':=s.gens) (d':=s.drawn) (t':=s.toks) (ch:=[]) (λ_ z=>nomatch z) (λb o _ _ _ e _=>e) (λb o _ _ _ e _=>⟨o.slots,e⟩) (λb o _ _ e=>by rw[aL (ne b e)];exact e) (λb o _ e=>⟨o,e⟩) (λb xs e=>?_) (λb o u e=>?_) (λb ps e=>?_) (λm hm=>hm) ?_ I.bare
 ·rw[aL (λz=>by subst z;rw[hd] at e;cases e)];exact e
 ·rw[aL (λz=>by subst z;rw[hd] at e;cases e)];exact e
 ·exact⟨#[],by rw[aL (λz=>by subst z;rw[hd] at e;cases e),e];simp⟩
 ·exact I.hok.swap hd (λ_ z=>by cases z) (λ_ z=>by cases z) ⟨ho,I.hok d _ hd⟩
end
theorem KV.len {κ:Type}:∀{l:List (κ×V)}{m:List (κ×Value)},KV l m->l.length=m.length
 |_,_, .nil=>rfl
 |_,_, .cons _ t=>by rw[bq,bq,KV.len t]
theorem KV.at {κ:Type}:∀{l:List (κ×V)}{m:List (κ×Value)},KV l m->∀{i:Nat}{k:κ}{x:Value},m[i]?=some (k,x)->∃v,l[i]?=some (k,v)
 |_,_, .nil,_,_,_,h=>by cases h
 |_,_, .cons (a:=p) (b:=q) r t,0,k,x,h=>by
  have e:q=(k,x):=by simpa using h
  exact⟨p.2,by rw[nh,show p=(k,p.2) from yc (by rw[r.1,e]) rfl]⟩
 |_,_, .cons _ t,i+1,k,x,h=>KV.at t (i:=i) (by simpa using h)
theorem aGo {P:Program}{w:World}{k:Key}{u:Value}(h:(cI P w).is k u=true):RelV (kV k) u:=by
 rcases cE h with⟨i,t,rfl,rfl⟩ | ⟨x,t,rfl,rfl⟩
 ·exact⟨_,rfl⟩
 ·exact⟨_,rfl⟩
structure aGZ (K:aa)(C:Addr):Prop where
 ga:ka K (.ref C) "__getattribute__" = some (some (.builtin "BaseException.__getattribute__"))
 gn:ka K (.ref C) "__getattr__" = some none
 cl:ka K (.ref C) "__class__" = some (some (.builtin "object.__class__"))
 gt:PySem.W.specialIn K (.builtin "object.__class__") "__get__" = some (some (.builtin "getset_descriptor.__get__"))
 tk:PySem.W.takesIn K (.builtin "object.__class__")=some true
 ob:yh K C (.type "object")=some true
 bx:A0 K (.ref C) (.type "BaseException")=some true
 is:(va K C).isSome=true
def XAt (h:Heap) (x C:Addr):Prop:=∃o,h.get? x=some o/\o.cls = .ref C
section
open Builtin Builtin.ObjectAttr Builtin.Getset_descriptor
variable {prog:Program}{w:World}{A:Around}{E:Value->Shared->Prop}{s:Shared}{K:aa}{x C:Addr}{R:Bs->Shared->Prop}
theorem XAt.type {M:Model}{h:Heap}(I:XAt h x C):o3 M h (typeOf (.ref x)) (.ref C):=by
 obtain⟨o,e,c⟩:=I
 exact c ▸ (PySem.W.Looks.ld e).andThen .now
theorem XAt.find {M:Model}{h:Heap}(X:K.In h)(Y:aGZ K C):o3 M h (find (.ref x) (.ref C) "__class__") (.bind (.builtin "getset_descriptor.__get__") (.builtin "object.__class__")):=by
 have L1:=uu (M:=M) X Y.cl
 have L2:o3 M h (getOf (some (.builtin "object.__class__"))) (some (.builtin "getset_descriptor.__get__")):=PySem.W.looks_specialIn X Y.gt
 have L3:=PySem.W.looks_takesIn (M:=M) X Y.tk
 exact L1.andThen (L2.andThen ((show o3 M h (dataDescriptor? (some (.builtin "object.__class__")) (some (.builtin "getset_descriptor.__get__"))) (some (.builtin "getset_descriptor.__get__", .builtin "object.__class__")) from L3.andThen .now).andThen (PySem.W.Looks.tag .now)))
theorem aAn {tp:Value}(X:K.In s.heap)(I:XAt s.heap x C)(hm:yh K C (.type "object")=some true)
  (h:R (.ok (.ret (.ref C))) s):vg (model prog w) A (.call (.builtin "getset_descriptor.__get__") ⟨[.builtin "object.__class__", .ref x,tp],[]⟩) R s:=by
 obtain⟨hh,g,dr,t,os⟩:=s
 have L0:=I.type (M:=model prog w)
 have L1:=PySem.W.looks_mroIn (M:=model prog w) X hm
 refine Ak PySem.W.KF.slot_gs.plain PySem.W.KF.entry_gs (PySem.W.KF.slot_gs.check _ _ _ _ _ _ _ _ PySem.W.KF.type_class (PySem.W.KF.args_gs _ _ _) ?_)
 unfold Builtin.«getset_descriptor.__get__» descrGet
 rw[PySem.W.dga_obj]
 refine af (aq ?_)
 unfold descrGetter descrCheckInstance descrNameAndClass Ag
 simp only[PySem.W.KF.owner_class]
 repeat lk
 refine⟨Code.quiet_builtin _ (by decide+kernel),jy PySem.W.KF.entry_class ?_⟩
 unfold Builtin.«object.__class__» shownTypeOf
 repeat lk
 exact h
theorem aDu {M:Model}{nameV:Value}{Q:Unit->Shared->Prop}(X:K.In s.heap)(I:XAt s.heap x C)(Y:aGZ K C)(hq:Q () s) :
  wpAny M A (checkBuiltinCall "BaseException.__getattribute__" ⟨[.ref x,nameV],[]⟩) Q E s:=by
 obtain⟨h,g,d,t,os⟩:=s
 have hk:builtinKind "BaseException.__getattribute__" = some .slot:=by decide+kernel
 have hsplit:splitId "BaseException.__getattribute__" = some ("BaseException","__getattribute__"):=by decide+kernel
 have L0:=I.type (M:=M)
 have L1:=PySem.W.looks_subIn (M:=M) X Y.bx
 have ha:=F.args_bexc_ga (.ref x) nameV
 simp only[checkBuiltinCall,hk,hsplit]
 refine af ?_
 unfold Ag
 refine af (L0.at (L1.at ?_))
 repeat (any_goals (first | assumption | wp_step))
theorem aCb {Q:Option Value->Shared->Prop}(X:K.In s.heap)(I:XAt s.heap x C)(Y:aGZ K C)(h:Q (some (.ref C)) { s with toks:=s.toks+1 }) :
  wpAny (model prog w) A (getAttr? (.ref x) "__class__") Q E s:=by
 obtain⟨hh,g,d,t,os⟩:=s
 have L0:=I.type (M:=model prog w)
 have L1:=uu (M:=model prog w) X Y.ga
 have L2:=uu (M:=model prog w) X Y.gn
 have L3:=XAt.find (M:=model prog w) (x:=x) X Y
 have hx2:(Value.builtin "BaseException.__getattribute__" == Value.builtin "object.__getattribute__")=false:=by decide+kernel
 have hx1:(onTheHeap (Value.ref C) && Value.builtin "BaseException.__getattribute__" == Value.builtin "object.__getattribute__")=false:=by rw[hx2];rfl
 unfold getAttr? getAttrBy? getAttrBy
 refine af (wpAny_mkText (af (q9 (ef (af (L0.at (af (L1.at ?_))))))))
 dsimp only
 rw[hx1,if_neg bh]
 unfold getAttrByItsOwn hookBefore
 rw[if_pos (show onTheHeap (Value.ref C)=true from rfl)]
 refine af (L2.at (af (q9 (ef ?_))))
 unfold callGetattribute
 rw[ua,if_neg bh]
 unfold boundAndCalled
 rw[F.attr_ValueError.ga.bind]
 refine af (aq ?_)
 refine wpAny_call (Ak F.attr_ValueError.ga.plain F.entry_bexc_ga (aDu X I Y ?_))
 unfold Builtin.«object.__getattribute__»
 refine af (aq (af (aq (af (L0.at (af (L3.at ?_)))))))
 show wpAny _ _ (do let v <- ya [Value.builtin "object.__class__"] (call (Value.builtin "getset_descriptor.__get__") [Value.builtin "object.__class__",Value.ref x,Value.ref C]);ret v) _ _ _
 refine af (ef (wpAny_call (aAn (s:=⟨hh,g,d,t+1,os⟩) X I Y.ob (aq ?_))))
 refine PySem.W.handed_on rfl (aq h)
theorem pY (Y:aGZ K C):PySem.W.KitX K (.ref x) (.ref C) (λh=>XAt h x C) where
 ty:=λ_ _ _ I=>I.type
 it:=λ_ _ X _=>by
  obtain⟨cd,hc⟩:=f6.mp Y.is
  unfold va at hc
  split at hc
  ·rename_i c' d' cd' sl' ho
   intro A' Q' E' s' k q
   unfold isType loadHead
   exact af (wpAny_loadPart (k _ _ (X _ _ ho)) (aq q))
  ·cases hc
 ne:=λh tp dd its n sl X htp=>by
  obtain⟨cd,hc⟩:=f6.mp Y.is
  refine Bool.eq_false_iff.mpr λq=>?_
  have e:C=tp:=Value.ref.inj (beq_iff_eq.mp q)
  subst e
  unfold va at hc
  split at hc
  ·rename_i c' d' cd' sl' ho
   have z:=(X _ _ ho).symm.trans htp
   cases z
  ·cases hc
 ca:=λX I k=>aCb X I Y k
end
def aAy (a C:Addr):HO := .ext λh=>XAt h a C
theorem aGv {P:Program}{w:World}{H:Hp}{h:Heap}{a C:Addr}(x:XAt h a C):ObjOk P w H h a (aAy a C):=
 ⟨x,let⟨o,e,_⟩:=x;⟨o,e⟩,λ_ _ ⟨o,e,c⟩ k=>⟨o,k o e,c⟩⟩
def aLj (K:aa) (H:Hp) (C:Addr) (c:V) (b:Bool):Prop:=
 (∃n,c = .ty n/\jj K (.ref C) (.type n)=some b)\/(∃D,c = .ref D/\jj K (.ref C) (.ref D)=some b) \/
  ∃(tp:Addr) (Ds:List Addr),c = .ref tp/\H tp=some (.tup (Ds.map V.ref))/\xh K (.ref C) (Ds.map Value.ref)=some b
def aGX (K:aa):List V->Hp->VK->Prop:=λvs H Q=>∃a C c b,vs=[.ref a,c]/\H a=some (aAy a C)/\aGZ K C/\aLj K H C c b/\Q (.bl b) H
theorem sK:∀{Ds:List Addr}{us:List Value},Vals (Ds.map V.ref) us->us=Ds.map Value.ref
 |[],_, .nil=>rfl
 |_ :: _,_, .cons r t=>by
  obtain rfl:=r
  rw[sK t];rfl
section
variable {X:Cx}
theorem aDM:CallR X (.builtin "isinstance") (aGX X.K):=by
 intro pins s σ H xs us Q I r ⟨a,C,c,b,e,ha,Y,hc,q⟩
 subst e
 obtain⟨u,v,rfl,rx,rc⟩:=r.two
 obtain rfl:u=Value.ref a:=rx
 have fin:∀t:Nat,EP X pins σ Q (.bool b) { s with toks:=t }:=λt=>⟨.bl b,H,I.tok t,rfl,q⟩
 have xa:XAt s.heap a C:=(I.hok a _ ha).1
 rcases hc with⟨n,rfl,k⟩ | ⟨D,rfl,k⟩ | ⟨tp,Ds,rfl,ht,k⟩
 ·obtain rfl:v=Value.type n:=rc
  exact PySem.W.kia_one (pY Y) I.kIn xa k (by intro z;cases z) fin
 ·obtain rfl:v=Value.ref D:=rc
  exact PySem.W.kia_one (pY Y) I.kIn xa k (by intro z;cases z) fin
 ·obtain rfl:v=Value.ref tp:=rc
  obtain⟨_,its,rv,o,e1,e2,⟨m,e3⟩,_⟩:=I.hok tp _ ht
  obtain⟨oc,od,dt,sl⟩:=o
  dsimp only at e2 e3
  subst e2 e3
  obtain rfl:=sK rv
  exact PySem.W.kia_tup (pY Y) I.kIn xa e1 k (by intro z;cases z) fin
theorem gF {K:aa}(hK:X.K=K):CallR X (.builtin "isinstance") (aGX K):=by subst hK;exact aDM
end
abbrev aHc:List Value:=[.type "ValueError", .type "Exception", .type "BaseException", .type "object"]
theorem aGr {K:aa}{h:Heap}{C:Addr}{bmB:List Value}{newId:String}(X:K.In h)(q:ni K C bmB newId=true) :
  ∃bm N nm qn bs hdct sn sub ab col dd k0 k1 k2 k3 k5 mN,h.get? C=some (excClassObj nm qn C N bs bm hdct sn sub ab col dd k0 k1 k2 k3 k5 newId)/\h.Ns N mN/\mN "__init__" = none/\OwnTail h bmB bm:=by
 unfold ni at q
 split at q
 ·rename_i dd cd sl ho
  split at q
  ·rename_i C' bm k0 k1 k2 k3 n k5 hm hs
   simp only[dv,beq_iff_eq,Bool.not_eq_true'] at q
   obtain⟨⟨⟨⟨⟨rfl,rfl⟩,hdel⟩,ht⟩,hok⟩,hni⟩:=q
   obtain⟨nm,bs,mro,ns,qn,hd,sn,sub,ab,col,del⟩:=cd
   dsimp only at hm hdel hok hni
   subst hm hdel
   have hsl:sl=#[k0,k1,k2,k3,some (.builtin n),k5]:=by
    obtain⟨l⟩:=sl
    simp only at hs
    rw[hs]
   subst hsl
   exact⟨bm,ns,nm,qn,bs,hd,sn,sub,ab,col,dd,k0,k1,k2,k3,k5,_,X _ _ ho, .of_isNs (PySem.W.isNs_of_in X hok),PySem.W.nsMap_none_of_in X hok hni,PySem.W.tail_of_in X ht⟩
  ·cases q
 ·cases q
def aBs (X:Cx) (E:XK):Prop:=∀(pins:List (Addr×Obj)) (σ:St) (H:Hp) (s:Shared) (cls:Value) (e:Addr) (vs:List Value) (h':Heap),Inv X pins σ H s->E cls none H->Heap.MadeExcOf s.heap h' e cls vs->X.xe (.ref e) { s with heap:=h' }
def xP (C:Addr) (E:XK):TS:=λ_ _ H=>E (.ref C) none H
section
variable {X:Cx}{x:Str}{np cpos pos p:Pos}{C:Addr}{E:XK}{m:Str}{j:Nat}
theorem aDz (T:aBs X E)(hc:X.calm=true)(hg:Gl X x)(hm:X.mg x=some (.ref C))(q:ni X.K C aHc "ValueError.__new__" = true)(hdb:(x == ("__debug__" : Str))=false:=by decide) :
  PS X (.Raise (some (.Call (.Name x np) [.Constant (.str m) j p] [] cpos)) none pos) (xP C E):=by
 intro pins s σ H D I h
 obtain⟨bm,N,nm,qn,bs,hdct,sn,sub,ab,col,dd,k0,k1,k2,k3,k5,mN,hC,hN,hni,TL⟩:=aGr I.kIn q
 refine wpAny_Raise_call_subT (C:=C) (nm:=nm) (q:=qn) (N:=N) (bs:=bs) (bm:=bm) (hdct:=hdct) (sn:=sn) (sub:=sub) (ab:=ab) (col:=col) (dd:=dd) (k0:=k0) (k1:=k1) (k2:=k2) (k3:=k3) (k5:=k5)
  Al (mN:=mN) (TL.hasType Al.hasBase) (I.ok.hd hc) rfl hni (rG I hg hm ⟨rfl,?_⟩ hdb)
 refine Ai (Calls.spliced_cons (Calls.Constant_str (k:=j) (pos:=p) (Calls.spliced_nil ⟨rfl,?_,hC,hN,TL,λh' e hx=>?_⟩)))
 ·show 1<=ba
  decide
 ·exact T pins σ H _ _ e _ h' (I.tok _) h hx
end
def sH (P:Program) (w:World):CXT:=λouter H s E e s'=>
 ∃(a:Addr) (cls a0:Value) (H':Hp) (B:Heap),e = .ref a/\s'.os=s.os/\w9 s'.gens/\Un (frs outer) [] H H' s.heap s'.heap/\HOk P w H' s'.heap /\
  Bn B outer a cls a0 s'.heap/\(∀b o,s'.heap.get? b=some o->b∉frs outer->(H' b≠none\/∃o',s.heap.get? b=some o')->B.get? b=some o)/\E cls none H'
section
variable {X:Cx}{pins:List (Addr×Obj)}{σ:St}{H:Hp}{s:Shared}{E:XK}{a:Addr}{cls a0:Value}{B h2:Heap}
theorem ObjOk.there {P:Program}{w:World}{H:Hp}{h:Heap}{a:Addr}:∀{o:HO},ObjOk P w H h a o->∃u,h.get? a=some u
 | .lst _,⟨_,_,_,_,e⟩=>⟨_,e⟩
 | .tup _,⟨_,_,_,o,e,_⟩=>⟨_,e⟩
 | .dK _,⟨_,_,_,_,o,_,_,e,_⟩=>⟨_,e⟩
 | .dT _,⟨_,_,_,_,o,_,_,e,_⟩=>⟨_,e⟩
 | .set _ _,⟨o,_,_,_,e,_⟩=>⟨_,e⟩
 | .ins _ _ _,⟨_,_,_,e,_⟩=>⟨_,e⟩
 | .own _,⟨_,e⟩=>⟨_,e⟩
 | .xd _,⟨_,⟨_,_,_,e,_⟩,_⟩=>⟨_,e⟩
 | .rng _ _,⟨_,_,_,e⟩=>⟨_,e⟩
 | .frz _ _,⟨e,_⟩=>⟨_,e⟩
 | .tbl _,e=>⟨_,e⟩
 | .met _ _,e=>⟨_,e⟩
 | .ext _,⟨_,e,_⟩=>e
theorem yB (hex:X.ex=[])(J:Inv X pins σ H s)(hfl:Bn B X.outer a cls a0 h2)(up:s.heap.UpToSlots h2)
  (cov:∀b o,s.heap.get? b=some o->b∉frs X.stack->(H b≠none\/∃o',X.s₀.heap.get? b=some o')->B.get? b=some o) (hE:E cls none H):sH X.prog X.w X.outer X.H₀ X.s₀ E (.ref a) { s with heap:=h2 }:=by
 have neL:∀b o,X.s₀.heap.get? b=some o->b≠X.env.locals:=λb o e=>df (cy (br e) J.ok.above)
 have nx:∀b:Addr,b∉X.ex:=λb z=>by rw[hex] at z;cases z
 have nst:∀b,b≠X.env.locals->b∉frs X.outer->b∉frs X.stack:=λb h1 h2 z=>(b6.mp (J.stkSub b z)).elim h1 h2
 have tr:∀b u o,H b=some u->s.heap.get? b=some o->h2.get? b=some o:=λb u o e q=>
  hfl.1 b o (cov b o q (λz=>by rw[J.stkFree b z] at e;cases e) (.inl (by rw[e];exact λz=>by cases z)))
 have ko:∀b o,X.s₀.heap.get? b=some o->∀o1,s.heap.get? b=some o1->b∉frs X.outer->h2.get? b=some o1:=λb o e o1 q n=>hfl.1 b o1 (cov b o1 q (nst b (neL b o e) n) (.inr ⟨o,e⟩))
 refine⟨a,cls,a0,H,B,rfl,J.os,J.bare,⟨λb o e n hb _=>?_,λb o e n hb _=>?_,λb o e n _=>?_,λb o e _=>?_,J.base.tups,J.base.frzs,J.base.tbls⟩,λb u e=>?_,hfl,λb o e n hc=>?_,hE⟩
 ·exact ko b o e o (J.base.keep b o e n hb (nx b)) hb
 ·obtain⟨sl,e1⟩:=J.base.slot b o e n hb (nx b)
  obtain⟨_,o2,e2,nf⟩:=J.funs.mem hb
  rw[e1] at e2;cases e2
  obtain⟨sl',e3⟩:=up b _ e1 nf
  exact⟨sl',e3⟩
 ·exact J.base.free b o e n (nx b)
 ·obtain⟨o1,e1⟩:=J.base.there b o e (nx b)
  by_cases hb:b∈frs X.outer
  ·obtain⟨_,o2,e2,nf⟩:=J.funs.mem hb
   obtain⟨sl',e3⟩:=up b _ e2 nf
   exact⟨_,e3⟩
  ·exact⟨o1,ko b o e o1 e1 hb⟩
 ·refine(J.hok b u e).stay (λc v hc q=>?_) (λ_ q=>q) λ_ _ q=>q
  rcases hc with z | z
  ·rw[z] at q ⊢;exact tr b u v e q
  ·exact tr c _ v z q
 ·rcases hc with hc | ⟨o',e'⟩
  ·cases hu:H b with
   |none=>exact absurd hu hc
   |some u=>
    obtain⟨o1,e1⟩:=(J.hok b u hu).there
    have e2:=tr b u o1 hu e1
    rw[e] at e2;cases e2
    exact cov b o e1 (λz=>by rw[J.stkFree b z] at hu;cases hu) (.inl hc)
  ·obtain⟨o1,e1⟩:=J.base.there b o' e' (nx b)
   have e2:=ko b o' e' o1 e1 n
   rw[e] at e2;cases e2
   exact cov b o e1 (nst b (neL b o' e') n) (.inr ⟨o',e'⟩)
end
section
variable {P:Program}{w:World}{K:aa}{mg:Str->Option Value}{base:Heap}{N:List Str}{qual:Str}{scope:Scope}{f:Addr}{cd:Value}{A:Around}{outer:List Env}{s₀:Shared}{H₀:Hp}{E:XK}
theorem pO:aBs (vC (sH P w) P w K mg base N qual scope f cd A outer s₀ H₀ E) E:=by
 intro pins σ H s cls e vs h' I hE hx
 have hin:∀env∈(vC (sH P w) P w K mg base N qual scope f cd A outer s₀ H₀ E).stack,∀b,env.frame=some b->b∈frs (vC (sH P w) P w K mg base N qual scope f cd A outer s₀ H₀ E).stack:=λenv he b hb=>wg.mpr ⟨env,he,hb⟩
 show wpAny _ _ _ _ _ _
 refine wpAny_leaves_madeW (base:=PySem.W.hideAll s.heap (frs (vC (sH P w) P w K mg base N qual scope f cd A outer s₀ H₀ E).stack)) I.ok.frames rfl (λb o q=>PySem.W.of_hideAll _ q) (PySem.W.funFrames_hide I.stack hin) hx λh2 t x1 _ _ x4=>?_
 exact yB (s:={ s with heap:=s.heap }) rfl I x1 ((Heap.UpToSlots.of_keeps hx.keeps).trans x4) (λb o q n _=>Ay _ q n) hE
theorem aAl:lG (sH P w) (vC (sH P w) P w K mg base N qual scope f cd A outer s₀ H₀ E) E:=by
 intro pins σ H s e s' I ⟨a,cls,a0,H',B,he,os,bare,un,hok,hfl,cov,hE⟩
 subst he
 have J:Inv (vC (sH P w) P w K mg base N qual scope f cd A outer s₀ H₀ E) pins σ H' s':=I.call' os un hok bare (λb z=>absurd z (by simp))
 show wpAny _ _ _ _ _ _
 refine wpAny_leaves_onW I.ok.frames rfl hfl λh2 x1 x2=>?_
 exact yB rfl J x1 x2 (λb o q n hc=>cov b o q n (hc.elim .inl λ⟨o',z⟩ => .inr (I.base.there b o' z (by simp[vC])))) hE
end
section
variable {X:Cx}{pins:List (Addr×Obj)}{σ:St}{H:Hp}{s:Shared}
theorem aDT {M:Model}{A:Around}{E:Value->Shared->Prop}{i:Nat}{x:Str}{Q:Bool->Shared->Prop}(I:Inv X pins σ H s)(hN:X.N.Nodup)(hi:X.N[i]?=some x)
  (h:∀s' m,s.heap.Ns X.env.locals m->Inv X pins (σ.set i none) H s'->Q (m x).isSome s'):wpAny M A (nsDel X.env.locals x) Q E s:=by
 obtain⟨m,hn,hl⟩:=id I.loc
 have hiσ:i<σ.length:=by rw[I.len];exact(au.mp hi).1
 have cne:=I.cne
 obtain⟨oL,_,_,hoL,_⟩:=id hn
 refine wpAny_nsDel_keeps hn λh' w' hn' hs=>?_
 refine h { s with heap:=h' } m hn ⟨I.ok,I.os,I.bare,⟨λb o e n hb hx=>?_,λb o e n hb hx=>?_,I.base.free,λb o e hx=>?_,I.base.tups,I.base.frzs,I.base.tbls⟩,⟨_,hn',λj y v' e1 e2 e3=>?_⟩,λy c e=>?_,I.free,I.freeC,λp hp=>?_,λb ob e=>?_,by simpa using I.len⟩
 ·exact(hs.2 b (df (cy (br e) I.ok.above))).trans (I.base.keep b o e n hb hx)
 ·obtain⟨sl,e1⟩:=I.base.slot b o e n hb hx
  exact⟨sl,(hs.2 b (df (cy (br e) I.ok.above))).trans e1⟩
 ·obtain⟨o',e1⟩:=I.base.there b o e hx
  exact⟨o',(hs.2 b (df (cy (br e) I.ok.above))).trans e1⟩
 ·by_cases hj:j=i
  ·subst hj
   rw[gw hiσ] at e2
   cases e2
  ·rw[gv (jh hj)] at e2
   obtain⟨u',r',q⟩:=hl j y v' e1 e2 e3
   refine⟨u',r',?_⟩
   rcases q with⟨k,e⟩ | ⟨k,c,e,z⟩
   ·refine .inl ⟨k,?_⟩
    have:y≠x:=λe=>hj (qK hN e1 (e ▸ hi))
    simp[this,e]
   ·exact .inr ⟨k,c,e,z.sameBut hs (cne y c e)⟩
 ·obtain⟨w',z⟩:=I.cell y c e
  exact⟨w',z.sameBut hs (cne y c e)⟩
 ·obtain⟨e,n,ne,nf,d⟩:=I.pin p hp
  exact⟨(hs.2 p.1 ne).trans e,n,ne,nf,d⟩
 ·refine(I.hok b ob e).stay (λc w' hc q=>(hs.2 c ?_).trans q) (λ_ q=>q) λ_ _ q=>q
  rintro rfl
  rcases hc with rfl | hc
  ·rw[I.free] at e;cases e
  ·rw[I.free] at hc;cases hc
theorem aDx {i:Nat}{v w:Option V}:(σ.set i v).set i w=σ.set i w:=List.set_set ..
theorem iW {M:Model}{A:Around}{E:Value->Shared->Prop}{i:Nat}{x:Str}{pos:Pos}{Q:Unit->Shared->Prop}(I:Inv X pins σ H s)(hN:X.N.Nodup)(hi:X.N[i]?=some x)(hx:X.env.scope.names.lookup x=some .local)
  (h:∀s',Inv X pins (σ.set i none) H s'->Q () s'):wpAny M A (do Br X.env x .none;Ao X.env x pos) Q E s:=by
 have hcls:(X.env.scope.kind == .class || (X.env.scope.kind == .module && X.env.locals != X.env.globals))=false:=by rw[I.ok.kind];rfl
 have hk:X.env.kindOf x=some .local:=hx
 refine af (Ar (gO (v := .non) I hN hi (.inl hx) rfl (λs' I'=>?_) (.inr hx)))
 unfold Ao
 refine u9 ?_
 unfold unbindName
 refine af (wpAny_point (af ?_))
 unfold deleteName
 simp only[hk,hcls]
 rw[if_neg (by decide)]
 refine af (aDT I' hN hi λs2 m hm I2=>?_)
 have hs:(m x).isSome=true:=by
  obtain⟨m',hn',hl'⟩:=I'.loc
  obtain⟨u,ru,q⟩:=hl' i x .non hi (gw (by rw[I.len];exact(au.mp hi).1)) (.inl hx)
  rcases q with⟨_,e⟩ | ⟨k,_⟩
  ·have:m=m':=by
    funext y
    obtain⟨o,es,ep,ho,hd,hk',hm'⟩:=hm
    obtain⟨o',es',ep',ho',hd',hk'',hm''⟩:=hn'
    rw[ho] at ho';cases ho'
    rw[hd] at hd';cases hd'
    rw[<- hm' y,<- hm'' y]
   rw[this,e];rfl
  ·rw[hk] at k;rcases k with k | k <;> cases k
 rw[hs]
 simp only[lh,dq,if_false]
 refine aq (wpAny_point (h s2 ?_))
 rw[aDx] at I2
 exact I2
end
abbrev Cx.tried (X:Cx) (pn:List (Addr×Obj)) (W:Value->Shared->Prop):Cx:={ X with pn:=pn,xe:=W }
abbrev Cx.suite (X:Cx) (pn:List (Addr×Obj)) (a:Addr):Cx:={ X with pn:=pn,xe:=λ_ _=>False,A:=X.A.mark (some (.ref a)),calm:=false }
section
variable {X:Cx}{pins pn pins':List (Addr×Obj)}{σ:St}{H H':Hp}{s s':Shared}{W:Value->Shared->Prop}{a C:Addr}{cls a0:Value}{B h2:Heap}
theorem Inv.tried (I:Inv X pins σ H s)(W:Value->Shared->Prop):Inv (X.tried (X.pn++pins) W) [] σ H s:=
 ⟨⟨I.ok.mod,I.ok.kind,I.ok.glob,I.ok.blt,I.ok.above,I.ok.inj,I.ok.has,I.ok.cab,I.ok.hd,I.ok.frames,I.ok.stk,I.ok.exf,I.ok.bs,I.ok.bsz,I.ok.noex,I.ok.exfs,I.ok.funs,I.ok.frf⟩,I.os,I.bare,I.base,I.loc,I.cell,I.free,I.freeC,
  λp hp=>I.pin p (by simpa using hp),I.hok,I.len⟩
theorem Inv.untried (I:Inv (X.tried (X.pn++pins) W) pins' σ H s):Inv X pins σ H s:=
 ⟨⟨I.ok.mod,I.ok.kind,I.ok.glob,I.ok.blt,I.ok.above,I.ok.inj,I.ok.has,I.ok.cab,I.ok.hd,I.ok.frames,I.ok.stk,I.ok.exf,I.ok.bs,I.ok.bsz,I.ok.noex,I.ok.exfs,I.ok.funs,I.ok.frf⟩,I.os,I.bare,I.base,I.loc,I.cell,I.free,I.freeC,
  λp hp=>I.pin p (ck _ hp),I.hok,I.len⟩
theorem Inv.suite (I:Inv X pins σ H s)(a:Addr):Inv (X.suite (X.pn++pins) a) [] σ H s:=
 ⟨⟨I.ok.mod,I.ok.kind,I.ok.glob,I.ok.blt,I.ok.above,I.ok.inj,I.ok.has,I.ok.cab,(λz=>by cases z),I.ok.frames,I.ok.stk,I.ok.exf,I.ok.bs,I.ok.bsz,I.ok.noex,I.ok.exfs,I.ok.funs,I.ok.frf⟩,I.os,I.bare,I.base,I.loc,I.cell,I.free,I.freeC,
  λp hp=>I.pin p (by simpa using hp),I.hok,I.len⟩
theorem Inv.unsuite (ok:X.Ok)(I:Inv (X.suite (X.pn++pins) a) pins' σ H s):Inv X pins σ H s:=
 ⟨ok,I.os,I.bare,I.base,I.loc,I.cell,I.free,I.freeC,λp hp=>I.pin p (ck _ hp),I.hok,I.len⟩
theorem sL (I:Inv X pins σ H s)(os:s'.os=s.os)(bare:w9 s'.gens)(un:Un (frs X.stack) [] H H' s.heap s'.heap)(hok:HOk X.prog X.w H' s'.heap)
  (cov:∀b o,s'.heap.get? b=some o->b∉frs X.stack->(H' b≠none\/∃o',s.heap.get? b=some o')->B.get? b=some o)
  (hfl:Bn B X.stack a (.ref C) a0 h2) (up:s'.heap.UpToSlots h2) (ha:∃oe,s'.heap.get? a=some oe):H' a=none/\Inv X pins σ (upd H' a (aAy a C)) { s' with heap:=h2 }:=by
 obtain⟨f1,f2,f3,f4⟩:=id hfl
 have sf:∀b∈frs X.stack,H' b=none:=λb hb=>by
  obtain⟨_,o,ho,_⟩:=I.stack.mem hb
  exact un.free b o ho (I.stkFree b hb) (by simp)
 have na:a∉frs X.stack:=λhb=>by
  obtain⟨_,o,ho,nf⟩:=f3.mem hb
  obtain⟨oe,vs,_,_,_,e1,_,e2,_⟩:=f4
  rw[ho] at e1;cases e1
  exact nf vs e2
 have hn:H' a=none:=by
  cases q:H' a with
  |none=>rfl
  |some u=>
   obtain⟨oe,e⟩:=ha
   have:=cov a oe e na (.inl (by rw[q];exact λz=>by cases z))
   rw[f2] at this;cases this
 have hs:s.heap.get? a=none:=by
  cases q:s.heap.get? a with
  |none=>rfl
  |some o=>
   obtain⟨oe,e⟩:=ha
   have:=cov a oe e na (.inr ⟨o,q⟩)
   rw[f2] at this;cases this
 have tr:∀b u o,H' b=some u->s'.heap.get? b=some o->h2.get? b=some o:=λb u o e q=>
  f1 b o (cov b o q (λz=>by rw[sf b z] at e;cases e) (.inl (by rw[e];exact λz=>by cases z)))
 have nb:∀b o,s.heap.get? b=some o->b≠a:=λb o e z=>by rw[z,hs] at e;cases e
 have nt:∀b u,H' b=some u->b≠a:=λb u e z=>by rw[z,hn] at e;cases e
 refine⟨hn,I.call' (s':={ s' with heap:=h2 }) (ch:=[]) os ⟨λb o e n hb _=>?_,λb o e n hb _=>?_,λb o e n _=>?_,λb o e _=>?_,λb xs e=>?_,λb o u e=>?_,λb ps e=>?_⟩ (λb u e=>?_) bare (λb z=>absurd z (by simp))⟩
 ·exact f1 b o (cov b o (un.keep b o e n hb (by simp)) hb (.inr ⟨o,e⟩))
 ·obtain⟨sl,e1⟩:=un.slot b o e n hb (by simp)
  obtain⟨_,o2,e2,nf⟩:=I.stack.mem hb
  rw[e] at e2;cases e2
  obtain⟨sl',e3⟩:=up b _ e1 nf
  exact⟨sl',e3⟩
 ·rw[aL (nb b o e)];exact un.free b o e n (by simp)
 ·obtain⟨o1,e1⟩:=un.there b o e (by simp)
  by_cases hb:b∈frs X.stack
  ·obtain⟨_,o2,e2,nf⟩:=I.stack.mem hb
   obtain⟨sl,e3⟩:=un.slot b o2 e2 (I.stkFree b hb) hb (by simp)
   obtain⟨sl',e4⟩:=up b _ e3 nf
   exact⟨_,e4⟩
  ·exact⟨o1,f1 b o1 (cov b o1 e1 hb (.inr ⟨o,e⟩))⟩
 ·have:=un.tups b xs e
  rw[aL (nt b _ this)];exact this
 ·have:=un.frzs b o u e
  rw[aL (nt b _ this)];exact this
 ·obtain⟨more,this⟩:=un.tbls b ps e
  exact⟨more,by rw[aL (nt b _ this)];exact this⟩
 ·by_cases hb:b=a
  ·subst hb
   rw[aD] at e;cases e
   obtain⟨ob,e1,e2⟩:=hfl.there
   exact aGv ⟨ob,e1,e2⟩
  ·rw[aL hb] at e
   refine(hok b u e).stay (λc v hc q=>?_) (λc q=>by rw[aL (nt c _ q)];exact q) λc xs q=>by rw[aL (nt c _ q)];exact q
   rcases hc with z | z
   ·rw[z] at q ⊢;exact tr b u v e q
   ·exact tr c _ v z q
end
def aKj (K:aa) (C0:Addr) (ie ln:Nat) (tb:XK->TS) (th:TS):TS:=λD σ H=>
 tb (λcls _ H1=>∃C,cls = .ref C/\xi K (.ref C) (.ref C0)=some true/\∀(a:Addr) (σ':St),H1 a=none->σ'.length=ln ->
  th { nx:=λσ2 H2=>D.nx (σ2.set ie none) H2,rt:=D.rt,bk:=λσ2 H2=>D.bk (σ2.set ie none) H2,ct:=λσ2 H2=>D.ct (σ2.set ie none) H2 } (σ'.set ie (some (.ref a))) (upd H1 a (aAy a C))) D σ H
section
variable {X:Cx}{x n:Str}{np pos hpos:Pos}{C0:Addr}{ie ln:Nat}{tb:XK->TS}{th:TS}{body suite:List Stmt}{b₀:Stmt}
theorem SP.untried {pins:List (Addr×Obj)}{W:Value->Shared->Prop}{D:hU}{f:Flow}{s':Shared}(h:SP (X.tried (X.pn++pins) W) [] D f s'):SP X pins D f s':=by
 cases f with
 |next=>obtain⟨σ',H',I,q⟩:=h;exact⟨σ',H',I.untried,q⟩
 |brk=>obtain⟨σ',H',I,q⟩:=h;exact⟨σ',H',I.untried,q⟩
 |cont=>obtain⟨σ',H',I,q⟩:=h;exact⟨σ',H',I.untried,q⟩
 |ret u=>obtain⟨v,σ',H',I,r,q⟩:=h;exact⟨v,σ',H',I.untried,r,q⟩
theorem aIR (hst:X.stack=X.env :: X.outer)(hfr:X.env.frame=some X.env.locals)(hln:X.N.length=ln)(hN:X.N.Nodup)(hi:X.N[ie]?=some n)(hx:X.env.scope.names.lookup n=some .local)
  (hg:Gl X x) (hm:X.mg x=some (.ref C0)) (hb:∀pn W E,lG (sH X.prog X.w) (X.tried pn W) E->PSs (X.tried pn W) body (tb E)) (hs:∀pn a,PSs (X.suite pn a) (b₀ :: suite) th) (hdb:(x == ("__debug__" : Str))=false:=by decide) :
  PS X (.Try body [.ExceptHandler (some (.Name x np)) (some n) (b₀ :: suite) hpos] [] [] pos) (aKj X.K C0 ie ln tb th):=by
 intro pins s σ H D I h
 have hps:=hb (X.pn++pins) (λe s'=>∃pins' σ1 H1 s1,Inv (X.tried (X.pn++pins) λ_ _=>False) pins' σ1 H1 s1/\sH X.prog X.w X.stack H1 s1 _ e s') _ (λpins' σ1 H1 s1 e s' I1 hl=>⟨pins',σ1,H1,s1,⟨⟨I1.ok.mod,I1.ok.kind,I1.ok.glob,I1.ok.blt,I1.ok.above,I1.ok.inj,I1.ok.has,I1.ok.cab,I1.ok.hd,I1.ok.frames,I1.ok.stk,I1.ok.exf,I1.ok.bs,I1.ok.bsz,I1.ok.noex,I1.ok.exfs,I1.ok.funs,I1.ok.frf⟩,I1.os,I1.bare,I1.base,I1.loc,I1.cell,I1.free,I1.freeC,I1.pin,I1.hok,I1.len⟩,hl⟩) [] s σ H D (I.tried _) h
 refine wpAny_Try_except (fz hps (λf s1 q=>?_) λe s1 q=>?_)
 ·cases f with
  |next=>exact ve q.untried
  |brk=>exact q.untried
  |cont=>exact q.untried
  |ret u=>exact q.untried
 ·obtain⟨pins',σ1,H1,s0,I1,a,cls,a0,H',B,he,os,bare,un,hok,hfl,cov,C,hc,hex,hth⟩:=q
  subst he hc
  have hfl0:=hfl
  rw[hst] at hfl
  have hfrm:X.A.frames=some (X.env :: X.outer):=by rw[<- hst];exact I.ok.frames
  obtain⟨oe,hoe,_⟩:=hfl0.there
  refine wpAny_looks_onW hfrm hfr hfl λh4 hheld4 up4=>?_
  refine wpAny_landsW hheld4 λh5 hfl5 up5=>?_
  have up5':=up4.trans up5
  obtain⟨hna,J5⟩:=sL (X:=X.tried (X.pn++pins) λ_ _=>False) I1 os bare un hok cov (by rw[hst];exact hfl5) up5' ⟨oe,hoe⟩
  have J5s:=J5.untried.suite a
  refine wpAny_handleBy_cons (codeAny_handlers_test (rG J5s hg hm ?_ hdb)) (by intro z;cases z)
  obtain⟨ob,hob,hobc⟩:=hfl5.there
  have LT:o3 (model X.prog X.w) h5 (typeOf (.ref a)) (.ref C):=XAt.type ⟨ob,hob,hobc⟩
  refine(PySem.W.exm_one J5.kIn LT hex).at ?_
  refine codeAny_handlers_suite_as ?_
  refine lands_againW hfl5 λh6 hfl6 up6=>?_
  obtain⟨_,J6⟩:=sL (X:=X.tried (X.pn++pins) λ_ _=>False) I1 os bare un hok cov (by rw[hst];exact hfl6) (up5'.trans up6) ⟨oe,hoe⟩
  have J6s:=J6.untried.suite a
  refine gO (X:=X.suite (X.pn++pins) a) (v := .ref a) J6s hN hi (.inl hx) rfl (λs7 J7=>?_) (.inr hx)
  refine fz (hs (X.pn++pins) a [] s7 _ _ _ J7 (hth a σ1 hna (by rw[I1.len];exact hln))) (λf s8 q=>?_) λ_ _ z=>kx z
  cases f with
  |next=>
   obtain⟨σ8,H8,J8,q8⟩:=q
   exact iW (X:=X.suite (X.pn++pins) a) J8 hN hi hx λs9 J9=>⟨_,H8,J9.unsuite I.ok,q8⟩
  |brk=>
   obtain⟨σ8,H8,J8,q8⟩:=q
   exact iW (X:=X.suite (X.pn++pins) a) J8 hN hi hx λs9 J9=>⟨_,H8,J9.unsuite I.ok,q8⟩
  |cont=>
   obtain⟨σ8,H8,J8,q8⟩:=q
   exact iW (X:=X.suite (X.pn++pins) a) J8 hN hi hx λs9 J9=>⟨_,H8,J9.unsuite I.ok,q8⟩
  |ret u=>
   obtain⟨v,σ8,H8,J8,r8,q8⟩:=q
   exact iW (X:=X.suite (X.pn++pins) a) J8 hN hi hx λs9 J9=>⟨v,_,H8,J9.unsuite I.ok,r8,q8⟩
end
section
variable {X:Cx}{st:Stmt}{t:TS}{x:Str}{np pos hpos cpos p:Pos}{C C0:Addr}{E:XK}{m:Str}{j:Nat}{K:aa}
theorem PS.nox (h:PS X.nox st t):PS X st t:=λpins s σ H D I hw=>
 fz (h pins s σ H D (I.wish _) hw) (λ_ _ q=>q.unwish) λ_ _ z=>kx z
theorem uT (hK:X.K=K)(T:aBs X E)(hc:X.calm=true)(hg:Gl X x)(hm:X.mg x=some (.ref C))(q:ni K C aHc "ValueError.__new__" = true)(hdb:(x == ("__debug__" : Str))=false:=by decide) :
  PS X (.Raise (some (.Call (.Name x np) [.Constant (.str m) j p] [] cpos)) none pos) (xP C E):=aDz T hc hg hm (by rw[hK];exact q) hdb
theorem aFV {n:Str}{ie ln:Nat}{tb:XK->TS}{th:TS}{body suite:List Stmt}{b₀:Stmt}(hK:X.K=K)(hst:X.stack=X.env :: X.outer)(hfr:X.env.frame=some X.env.locals)(hln:X.N.length=ln)(hN:X.N.Nodup)(hi:X.N[ie]?=some n)(hx:X.env.scope.names.lookup n=some .local)
  (hg:Gl X x) (hm:X.mg x=some (.ref C0)) (hb:∀pn W E,lG (sH X.prog X.w) (X.tried pn W) E->PSs (X.tried pn W) body (tb E)) (hs:∀pn a,PSs (X.suite pn a) (b₀ :: suite) th) (hdb:(x == ("__debug__" : Str))=false:=by decide) :
  PS X (.Try body [.ExceptHandler (some (.Name x np)) (some n) (b₀ :: suite) hpos] [] [] pos) (aKj K C0 ie ln tb th):=by subst hK;exact aIR hst hfr hln hN hi hx hg hm hb hs hdb
end
structure DefX (P:Program)(w:World)(K:aa)(mg:Str->Option Value)(base:Heap)(x:Str)(k:Nat)(ps:List Str)(sp:Sp):Prop where
 ex:∃(f:Addr) (fd:FuncData),FnOk P w K mg base (sH P w) k f fd ps sp/\mg x=some (.ref f)/\o9 K (.ref f)=true/\Binds K fd ps []
theorem DefX.mono {P:Program}{w:World}{K:aa}{mg:Str->Option Value}{base:Heap}{x:Str}{j k:Nat}{ps:List Str}{sp:Sp}(D:DefX P w K mg base x j ps sp)(h:j<=k):DefX P w K mg base x k ps sp:=by
 obtain⟨f,fd,F,r⟩:=D.ex
 exact⟨f,fd,F.mono h,r⟩
theorem qV {X:Cx}{x:Str}{k:Nat}{ps:List Str}{sp:Sp}{p pos:Pos}{e:Expr}{es:List Expr}{t:TA}{E:XK}(D:DefX X.prog X.w X.K X.mg X.base x k ps sp)(hr:Room k X.A)(hg:Gl X x)(hx:lG (sH X.prog X.w) X E)(ha:PA X (e :: es) t)
  (hdb:(x == ("__debug__" : Str))=false:=by decide) (he:fi (e :: es) X.env=(false,eval e X.env) :: fi es X.env:=by rfl) (hpl:(zc pos (fi es X.env)).any (·.1)=false:=by rfl) :
  PE X (.Call (.Name x p) (e :: es) [] pos) (bI sp [] E t):=by
 obtain⟨f,fd,F,hm,hk,hb⟩:=D.ex
 exact aBF F hr hg hm hk hb .nil hx ha hdb he hpl
section
variable {P:Program}{w:World}{K:aa}{mg:Str->Option Value}{base:Heap}
theorem Fun.okX {x qual:Str}{st:Stmt}{f:Addr}{fd:FuncData}{N ps:List Str}{k:Nat}{sp:Sp}(F:Fun K x qual st f fd)(S:kC N ps (bQ st))(len:∀vs H Q E,sp vs H Q E->vs.length=ps.length)
  (hbody:∀(cdv:Value) (A:Around) (outer:List Env) (s:Shared) (H:Hp) (vs:List V) (Q:VK) (E:XK),Room k (A.deeper (zh qual (bQ st) s.heap.objs.size f cdv))->sp vs H Q E ->
   ∃t,PSs (vC (sH P w) P w K mg base N qual (bQ st) f cdv A outer s H E) (cZ st) t/\t { nx:=λ_ H'=>Q .non H',rt:=Q } (start N vs) H):FnOk P w K mg base (sH P w) (k+1) f fd ps sp:=by
 obtain⟨oc,od,kV,doc,pm,an,cdv,ct,osl,rfl,lk,hcd⟩:=F.ex
 exact aHz lk hcd S len λA outer s H vs Q E hr hsp=>hbody cdv A outer s H vs Q E hr hsp
end
theorem qW:ei ("ValueError" : Str)=some (.type "ValueError"):=PyProof.Rows.Boot.«ValueError»
end L2
namespace L2
open PySem
section
variable {X:Cx}
end
theorem aFP {X:Cx}:lG (sH X.prog X.w) X E0:=λ_ _ _ _ _ _ _ ⟨_,_,_,_,_,_,_,_,_,_,_,_,h⟩=>h.elim
section
variable {P:Program}{w:World}
def IsPairKey (P:Program) (w:World) (h:Heap) (k:List Int×Int) (a:Addr):Prop:=∃o n b t,h.get? a=some o/\o.cls = .type "tuple"/\o.data = .seq #[.ref b, .int k.2 t] n/\IsTupleKey (ly P w) h k.1 b
theorem IsPairKey.typeIs {s:Shared}{k:List Int×Int}{a:Addr}(x:IsPairKey P w s.heap k a):s.TypeIs (.ref a) "tuple":=let⟨o,_,_,_,ho,hc,_⟩:=x;⟨o,ho,hc⟩
theorem IsPairKey.inj {h:Heap}{a:Addr}{x y:List Int×Int}(hx:IsPairKey P w h x a)(hy:IsPairKey P w h y a):x=y:=by
 obtain⟨o,n,b,t,ho,_,hd,hi⟩:=hx
 obtain⟨o',n',b',t',ho',_,hd',hi'⟩:=hy
 obtain rfl:o=o':=da (ho.symm.trans ho')
 rw[hd] at hd'
 injection hd' with h1 _
 have h2:[Value.ref b, .int x.2 t]=[.ref b', .int y.2 t']:=congrArg Bb h1
 injection h2 with h3 h4
 injection h4 with h5 _
 injection h3 with h3
 injection h5 with h5 _
 subst h3
 exact yc (hi.inj hi') h5
theorem IsPairKey.keeps {h h':Heap}{k:List Int×Int}{a d:Addr}{o:Obj}{es ep}(x:IsPairKey P w h k a)(ho:h.get? d=some o)(hd:o.data = .dict es ep)(hs:je d h h'):IsPairKey P w h' k a:=by
 obtain⟨o',n,b,t,ho',hc,hd',hi⟩:=x
 have hne:a≠d:=by
  rintro rfl
  obtain rfl:o'=o:=da (ho'.symm.trans ho)
  rw[hd] at hd';exact nomatch hd'
 exact⟨o',n,b,t,(hs.2 a hne).trans ho',hc,hd',hi.keeps ho hd hs⟩
def qU (P:Program) (w:World) (k:List Int×Int):Int:=A9 (fo [ow (ly P w) k.1,(ly P w).hash k.2])
variable {A:Around}{E:Value->Shared->Prop}{s:Shared}
theorem wR {k:List Int×Int}{a:Addr}{Q:Int->Shared->Prop}(hu:A.units+5<cLine)(hk:IsPairKey P w s.heap k a)(h:Q (qU P w k) { s with toks:=s.toks+(k.1.length+3) }) :
  wpAny (model P w) A (pyHash (.ref a)) Q E s:=by
 have hT:=hk.typeIs
 obtain⟨o,n,b,t,ho,_,hd,hi⟩:=hk
 unfold pyHash
 first | unfold pyHashByItsType | skip
 first | refine af (wpAny_cRoomFor_or (.inr (by omega)) ?_) | skip
 refine af (qx hT t6.lookup ?_)
 show wpAny _ _ (if(some (Value.builtin "tuple.__hash__") == some Value.none)=true then _ else _) Q E s
 rw[if_neg (by rw[beq_builtin_none];exact bh)]
 refine af (qx hT t6.lookup ?_)
 show wpAny _ _ (callSpecialIfBoundUnlessNone? (.ref a) "__hash__" _ >>= _) Q E s
 refine af (wpAny_callSpecialIfBoundUnlessNone?_slot hT t6 (fc t6 hT F.entry_tuple_hash ?_ (F.args_tuple_hash_1 _)))
 show wpAny _ _ (o6 (.ref a) >>= _) _ _ s
 refine af (wq ho hd ?_)
 refine af ?_
 rw[<- wu]
 show wpAny _ _ (forIn [Value.ref b,Value.int k.2 t] #[] _) _ _ s
 rw[i9]
 refine af (af (wpAny_pyHash_tuple (knd:=ly P w) (show A.units+1<cLine by omega) hi (aq ?_)))
 show wpAny _ _ (forIn [Value.int k.2 t] #[ow (ly P w) k.1] _) _ _ _
 rw[i9]
 refine af (af ((ly P w).pyHash (k:=k.2) (v := .int k.2 t) (by show Value.isInt k.2 (.int k.2 t)=true;unfold Value.isInt;exact beq_self_eq_true _) (aq ?_)))
 show wpAny _ _ (forIn [] #[ow (ly P w) k.1,(ly P w).hash k.2] _) _ _ _
 rw[j9]
 refine aq ?_
 show wpAny _ _ (retInt (fo [ow (ly P w) k.1,(ly P w).hash k.2])) _ _ _
 refine wpAny_ret_mkInt ?_
 show wpAny _ _ (if(decide (-(2:Int) ^ 63<=fo [ow (ly P w) k.1,(ly P w).hash k.2]) && decide (fo [ow (ly P w) k.1,(ly P w).hash k.2]<2 ^ 63))=true then _ else _) Q E _
 unfold qU A9 at h
 by_cases hr:(decide (-(2:Int) ^ 63<=fo [ow (ly P w) k.1,(ly P w).hash k.2]) && decide (fo [ow (ly P w) k.1,(ly P w).hash k.2]<2 ^ 63))=true
 ·rw[if_pos hr]
  rw[if_pos hr] at h
  exact aq (by simpa[Nat.add_assoc] using h)
 ·rw[if_neg hr]
  rw[if_neg hr] at h
  exact af (tf (aq (by simpa[Nat.add_assoc] using h)))
theorem tH {x y:List Int×Int}{a b:Addr}{Pd:Fin->Shared->Prop}(hu:A.units<cLine)(hx:IsPairKey P w s.heap x a)(hy:IsPairKey P w s.heap y b)(h:Pd (.done (.ret (.bool (decide (x=y))))) s) :
  wpAny (model P w) A (Builtin.«tuple.__eq__» ⟨[.ref a, .ref b],[]⟩) Pd E s:=by
 have hTb:=hy.typeIs
 obtain⟨oa,na,ia,ta,hoa,_,hda,hia⟩:=hx
 obtain⟨ob,nb,ib,tb,hob,_,hdb,hib⟩:=hy
 show wpAny _ _ (Ag (.ref b) (.type "tuple") >>= _) _ _ s
 refine af (pz hTb uc ?_)
 simp only[lh,dq,if_false]
 refine af (wq hoa hda ?_)
 refine af (wq hob hdb ?_)
 refine af ?_
 show wpAny _ _ (forIn [(Value.ref ia,Value.ref ib),(Value.int x.2 ta,Value.int y.2 tb)] _ _) _ _ s
 rw[i9]
 refine af (af (wpAny_eqBool_tuple (knd:=ly P w) hu hia hib ?_))
 by_cases h1:x.1=y.1
 ·rw[decide_eq_true h1]
  simp only[lh,dq,if_false]
  refine aq ?_
  show wpAny _ _ (forIn [(Value.int x.2 ta,Value.int y.2 tb)] _ _) _ _ s
  rw[i9]
  refine af (af (ug ?_))
  by_cases h2:x.2=y.2
  ·rw[show(x.2 == y.2)=true by rw[h2];exact beq_self_eq_true _]
   simp only[lh,dq,if_false]
   refine aq ?_
   show wpAny _ _ (forIn [] _ _) _ _ s
   rw[j9]
   refine aq (aq ?_)
   have e:decide (x=y)=true:=decide_eq_true (yc h1 h2)
   rw[e] at h
   exact h
  ·rw[show(x.2 == y.2)=false by exact beq_false_of_ne h2]
   simp only[Bool.not_false,if_true]
   have e:decide (x=y)=false:=decide_eq_false λz=>h2 (congrArg Ah z)
   rw[e] at h
   exact af (aq (aq (aq (aq h))))
 ·rw[decide_eq_false h1]
  simp only[Bool.not_false,if_true]
  have e:decide (x=y)=false:=decide_eq_false λz=>h1 (congrArg ub z)
  rw[e] at h
  exact af (aq (aq (aq (aq h))))
theorem wO {x y:List Int×Int}{a b:Addr}{Q:Bool->Shared->Prop}(hu:A.units+5<cLine)(hx:IsPairKey P w s.heap x a)(hy:IsPairKey P w s.heap y b)(h:Q (decide (x=y)) s) :
  wpAny (model P w) A (eqBool (.ref a) (.ref b)) Q E s:=by
 unfold eqBool
 try with_reducible refine ef ?_
 show wpAny _ _ (if(Value.ref a == Value.ref b)=true then _ else _) Q E s
 by_cases hab:(Value.ref a == Value.ref b)=true
 ·rw[if_pos hab]
  have e:a=b:=by have:=Bt hab;injection this
  subst e
  obtain rfl:=hx.inj hy
  exact af (tf (aq (by simpa using h)))
 ·rw[if_neg hab]
  exact af (wpAny_richCompare_same_room (op := .Eq) hx.typeIs hy.typeIs vv
   (fc vv hx.typeIs F.entry_tuple_eq (tH (show A.units+1<cLine by omega) hx hy ⟨_,rfl,(λe=>nomatch e),iw h⟩) (F.args_tuple_eq_2 _ _)) (by omega))
theorem aDG {ks:List Int}{a:Addr}{m:Nat}{Q:Bool->Shared->Prop}(hk:IsTupleKey (ly P w) s.heap ks a)(h:Q true s):wpAny (model P w) A (Bz (m+1) (.ref a)) Q E s:=by
 have hT:=hk.typeIs
 obtain⟨o,items,n,ho,_,hd,hi⟩:=hk
 unfold Bz
 refine af (qx hT vv.lookup ?_)
 show wpAny _ _ (Ag (.ref a) (.type "tuple") >>= _) _ _ s
 refine af (pz hT uc ?_)
 simp only[lh,dq,if_false]
 refine af (fm ho hd ?_)
 refine af ?_
 show wpAny _ _ (forIn items _ _) _ _ s
 rw[<- wu]
 refine yt _ (λrest r s'=>r.1=none/\s'=s/\∀v∈rest,carriedByValue v=true) _ ?_ ?_ _ _ ⟨rfl,rfl,hi.byValue⟩
 ·rintro v rest r s' ⟨hr,rfl,hall⟩
  rw[eqIsQuiet_byValue _ (hall v b7)]
  refine af (aq ?_)
  simp only[lh,dq,if_false]
  exact aq ⟨rfl,rfl,λu hu'=>hall u (ar _ hu')⟩
 ·rintro⟨r1,r2⟩ s' ⟨hr,rfl,_⟩
  simp only at hr
  subst hr
  exact aq h
theorem aAh {k:List Int×Int}{a:Addr}{Q:Bool->Shared->Prop}(hk:IsPairKey P w s.heap k a)(h:Q true s):wpAny (model P w) A (Bz 8 (.ref a)) Q E s:=by
 have hT:=hk.typeIs
 obtain⟨o,n,b,t,ho,_,hd,hi⟩:=hk
 unfold Bz
 refine af (qx hT vv.lookup ?_)
 show wpAny _ _ (Ag (.ref a) (.type "tuple") >>= _) _ _ s
 refine af (pz hT uc ?_)
 simp only[lh,dq,if_false]
 refine af (fm ho hd ?_)
 refine af ?_
 show wpAny _ _ (forIn #[Value.ref b,Value.int k.2 t] _ _) _ _ s
 rw[<- wu]
 show wpAny _ _ (forIn [Value.ref b,Value.int k.2 t] _ _) _ _ s
 rw[i9]
 refine af (af (aDG hi ?_))
 simp only[lh,dq,if_false]
 refine aq ?_
 show wpAny _ _ (forIn [Value.int k.2 t] _ _) _ _ s
 rw[i9,eqIsQuiet_byValue _ (v:=Value.int k.2 t) rfl]
 refine af (af (aq ?_))
 simp only[lh,dq,if_false]
 refine aq ?_
 show wpAny _ _ (forIn [] _ _) _ _ s
 rw[j9]
 exact aq (aq h)
def gR (P:Program) (w:World):HeapKind P w (List Int×Int) where
 is:=IsPairKey P w
 hash:=qU P w
 draws:=λk=>k.1.length+3
 room:=λA=>A.units+5<cLine
 inj:=λhx hy=>hx.inj hy
 keeps:=λx ho hd hs=>x.keeps ho hd hs
 pyHash:=λhu hk h=>wR hu hk h
 eqBool:=λhu hx hy h=>wO hu hx hy h
 quiet:=λhk h=>aAh hk h
end
abbrev PKy:=List Int×Int
abbrev PEs:=List (PKy×Addr×V)
def aHx (k:PKy):Int:=A9 (fo [A9 (fo (k.1.map hashInt)),hashInt k.2])
abbrev aDd (p:PKy×Addr×V) (q:PKy×Addr×Value):Prop:=p.1=q.1/\p.2.1=q.2.1/\RelV p.2.2 q.2.2
def dpP (a:Addr) (xs:PEs) (ep:Nat) (h:Heap):Prop:=xs.length<=ba/\(a == jt)=false/\∃ys:List (PKy×Addr×Value),Paired aDd xs ys /\
 ∃o es,h.get? a=some o/\o.ExactDict/\o.data = .dict es ep/\es.toList=ys.map (λy=>(⟨aHx y.1, .ref y.2.1,y.2.2⟩:DictEntry))/\(ys.map (·.1)).Nodup
def dpO (a:Addr) (xs:PEs) (ep:Nat):HO := .ext (dpP a xs ep)
theorem aEv {P:Program}{w:World}{H:Hp}{h:Heap}{a:Addr}{xs:PEs}{ep:Nat}(x:dpP a xs ep h):ObjOk P w H h a (dpO a xs ep):=
 ⟨x,let⟨_,_,_,_,o,_,e,_⟩:=x;⟨o,e⟩,λ_ _ ⟨z,y,ys,r,o,es,e,rest⟩ k=>⟨z,y,ys,r,o,es,k o e,rest⟩⟩
def KeyP (H:Hp) (k:PKy) (c:Addr):Prop:=∃b,H c=some (.tup [.ref b, .int k.2])/\H b=some (.tup (k.1.map V.int))
def DP (H:Hp) (a:Addr) (xs:PEs) (ep:Nat):Prop:=H a=some (dpO a xs ep)/\∀x∈xs,KeyP H x.1 x.2.1
def aAu (xs:PEs) (k:PKy):Option V:=(xs.find? λx=>decide (x.1=k)).map (·.2.2)
section
variable {P:Program}{w:World}{H:Hp}{h:Heap}{a c:Addr}{k:PKy}{xs:PEs}
theorem kI:∀{ns:List Int}{its:List Value},Vals (ns.map V.int) its->ItemsAre (ly P w) ns its
 |[],_, .nil => .nil
 |n :: ns,_, .cons r t=>by
  obtain⟨tk,rfl⟩:=r
  exact .cons (by show Value.isInt n (.int n tk)=true;unfold Value.isInt;exact beq_self_eq_true _) (kI t)
theorem KeyP.is (ok:HOk P w H h)(e:KeyP H k c):(gR P w).is h k c:=by
 obtain⟨b,e1,e2⟩:=e
 obtain⟨_,its,r,o,h1,h2,⟨n,h3⟩,_⟩:=(show ObjOk P w H h c (.tup [.ref b, .int k.2]) from ok c _ e1)
 obtain⟨_,its',r',o',h1',h2',⟨n',h3'⟩,_⟩:=(show ObjOk P w H h b (.tup (k.1.map V.int)) from ok b _ e2)
 obtain⟨u,v,rfl,ru,rv⟩:=r.two
 obtain rfl:u=Value.ref b:=ru
 obtain⟨t,rfl⟩:=rv
 exact⟨o,n,b,t,h1,h2,h3,o',its'.toArray,n',h1',h2',h3',by simpa using kI r'⟩
theorem DP.of {ep:Nat}(ok:HOk P w H h)(e:DP H a xs ep):xs.length<=ba/\(a == jt)=false/\∃ys,Paired aDd xs ys/\h.DictOfH (gR P w) a ys:=by
 obtain⟨z,y,ys,r,o,es,h1,h2,h3,h4,h5⟩:=(show dpP a xs ep h from(ok a _ e.1).1)
 refine⟨z,y,ys,r,o,es,ep,h1,h2,h3,h4,?_,h5⟩
 have all:∀{l:PEs}{m:List (PKy×Addr×Value)},Paired aDd l m->(∀x∈l,KeyP H x.1 x.2.1)->∀x∈m,(gR P w).is h x.1 x.2.1:=by
  intro l m q
  induction q with
  |nil=>intro _ x hx;exact nomatch hx
  | @cons p q ps qs hq t ih=>
   intro hk x hx
   rcases b6.mp hx with e | hx
   ·subst e
    have:=hk p (b7 ..)
    rw[hq.1,hq.2.1] at this
    exact this.is ok
   ·exact ih (λx hx=>hk x (ar _ hx)) x hx
 exact all r e.2
theorem aEp:∀{xs:PEs}{ys:List (PKy×Addr×Value)},Paired aDd xs ys->∀{v:V},aAu xs k=some v->∃p,atKey ys k=some p/\RelV v p.2
 |_,_, .nil,v,e=>by cases e
 |x :: xs,y :: ys, .cons r t,v,e=>by
  unfold aAu at e
  unfold atKey
  rw[jl] at e ⊢
  by_cases hk:x.1=k
  ·rw[decide_eq_true hk] at e
   rw[decide_eq_true (by rw[<- r.1];exact hk)]
   cases e
   exact⟨_,rfl,r.2.2⟩
  ·rw[decide_eq_false hk] at e
   rw[decide_eq_false (by rw[<- r.1];exact hk)]
   exact aEp t e
theorem aBp:∀{xs:PEs}{ys:List (PKy×Addr×Value)},Paired aDd xs ys->aAu xs k=none->atKey ys k=none
 |_,_, .nil,_=>rfl
 |x :: xs,y :: ys, .cons r t,e=>by
  unfold aAu at e
  unfold atKey
  rw[jl] at e ⊢
  by_cases hk:x.1=k
  ·rw[decide_eq_true hk] at e;cases e
  ·rw[decide_eq_false hk] at e
   rw[decide_eq_false (by rw[<- r.1];exact hk)]
   exact aBp t e
theorem xI:∀{xs:PEs}{ys:List (PKy×Addr×Value)},Paired aDd xs ys->∀{p:PKy×Addr×V}{q:PKy×Addr×Value},aDd p q->Paired aDd (xs++[p]) (ys++[q])
 |_,_, .nil,_,_,r => .cons r .nil
 |_,_, .cons r0 t,_,_,r => .cons r0 (xI t r)
end
theorem hu6 {A:Around}{k:Nat}(hr:Room k A):A.units+6<cLine:=cw (AH (by decide:6<=64) _) hr.units
def aET:TE:=λ_ H Q=>∀p ep,H p=none->Q (.ref p) (upd H p (dpO p [] ep))
def KeyQ (K:aa) (H:Hp) (k:PKy) (c:Addr):Prop:=∃b,SqT K H c [.ref b, .int k.2]/\SqT K H b (k.1.map V.int)
theorem KeyP.q {K:aa}{H:Hp}{k:PKy}{c:Addr}(e:KeyP H k c):KeyQ K H k c:=let⟨b,h1,h2⟩:=e;⟨b, .of h1, .of h2⟩
theorem KeyQ.is {X:Cx}{pins:List (Addr×Obj)}{σ:St}{H:Hp}{s:Shared}{k:PKy}{c:Addr}(I:Inv X pins σ H s)(e:KeyQ X.K H k c):(gR X.prog X.w).is s.heap k c:=by
 obtain⟨b,e1,e2⟩:=e
 obtain⟨its,r,⟨o,h1,h2,n,h3⟩,_⟩:=I.tuple e1
 obtain⟨its',r',⟨o',h1',h2',n',h3'⟩,_⟩:=I.tuple e2
 obtain⟨u,v,rfl,ru,rv⟩:=r.two
 obtain rfl:u=Value.ref b:=ru
 obtain⟨t,rfl⟩:=rv
 exact⟨o,n,b,t,h1,h2,h3,o',its'.toArray,n',h1',h2',h3',by simpa using kI r'⟩
def aGs (K:aa) (td ty:TE):TE:=λσ H Q=>td σ H λx H1=>ty σ H1 λy H2=>∃a c xs ep k v,x = .ref a/\y = .ref c/\DP H2 a xs ep/\KeyQ K H2 k c/\aAu xs k=some v/\Q v H2
def aGA (td ty tv:TE):TS:=λD σ H=>tv σ H λv H1=>td σ H1 λx H2=>ty σ H2 λy H3=>∃a c xs ep k,x = .ref a/\y = .ref c/\DP H3 a xs ep/\KeyP H3 k c/\aAu xs k=none/\xs.length<ba/\∀ep',D.nx σ (upd H3 a (dpO a (xs++[(k,c,v)]) ep'))
section
variable {X:Cx}{o i value:Expr}{pos pos':Pos}{td ty tv:TE}
theorem aDo:PE X (.Dict [] [] pos) aET:=λpins s σ H Q I h=>
 wpAny_Dict_empty ⟨.ref s.heap.objs.size,_,I.laid (a:=s.heap.objs.size) (o:=dpO s.heap.objs.size [] 0) (t':=s.toks) (λ_ _ q=>ak _ q) (ay _)
  (aEv ⟨bc _,beq_eq_false_iff_ne.mpr (jh (df I.big)),[], .nil,_,#[],bg _ rfl,⟨rfl,rfl,rfl⟩,rfl,rfl,kd⟩),rfl,h _ 0 (I.hok.fresh (ay _))⟩
theorem aAJ {K:aa}(hK:X.K=K)(hu:X.A.units+6<cLine)(ho:PE X o td)(hi:PE X i ty)(hs:aJU i):PE X (.Subscript o i pos) (aGs K td ty):=by
 subst hK
 intro pins s σ H Q I h
 refine aBu xc.lookup hs (thn (ho pins s σ H _ I h) λu s1 ⟨x,H1,I1,rx,q1⟩=>thn (hi pins s1 σ H1 _ I1 q1) λiv s2 ⟨y,H2,I2,ry,a,c,xs,ep,k,v,ex,ey,dp,kp,hv,q2⟩=>?_)
 subst ex ey
 obtain rfl:u=Value.ref a:=rx
 obtain rfl:iv=Value.ref c:=ry
 obtain⟨_,_,ys,r,dd⟩:=dp.of I2.hok
 obtain⟨p,hp,rp⟩:=aEp r hv
 exact⟨dd.typeIs,wpAny_getItem_heap (knd:=gR X.prog X.w) (show X.A.units+1+5<cLine by omega) (kp.is I2) dd hp ⟨v,H2,I2.tok _,rp,q2⟩⟩
theorem aBO (hu:X.A.units+6<cLine)(ho:PE X o td)(hi:PE X i ty)(hv:PE X value tv)(hs:AR value (some (.Subscript o i pos')) pos.line X.env=pure false) :
  PS X (.Assign [.Subscript o i pos'] value pos) (aGA td ty tv):=by
 intro pins s σ H D I h
 refine y8 (thn (hv pins s σ H _ I h) λr s1 ⟨v,H1,I1,rv,q1⟩=>thn (ho pins s1 σ H1 _ I1 q1) λu s2 ⟨x,H2,I2,rx,q2⟩=>thn (hi pins s2 σ H2 _ I2 q2) λiv s3 ⟨y,H3,I3,ry,a,c,xs,ep,k,ex,ey,dp,kp,hn,hz,q3⟩=>?_) hs
 subst ex ey
 obtain rfl:u=Value.ref a:=rx
 obtain rfl:iv=Value.ref c:=ry
 obtain⟨_,hd,ys,rel,dd⟩:=dp.of I3.hok
 have hl:xs.length=ys.length:=qo rel
 refine wpAny_setItem_heap (knd:=gR X.prog X.w) (hsz:=by omega) (show X.A.units+1+5<cLine by omega) (kp.is I3.hok) dd λh' dd' hsb=>?_
 rw[storedH_new (aBp rel hn)] at dd'
 obtain⟨q,es,ep',hq,h2,h3,h4,_,h5⟩:=dd'
 exact⟨σ,_,rH I3 (by rw[dp.1];exact True.intro) hsb ⟨q,hq⟩ (aEv ⟨by rw[ao];exact hz,hd,_,xI rel ⟨rfl,rfl,rv⟩,q,es,hq,h2,h3,h4,h5⟩),q3 ep'⟩
end
end L2
namespace L2
open PySem PySem.Spec PyProof.Rows
section
variable {prog:Program}{w:World}{A:Around}{E:Value->Shared->Prop}{s:Shared}{d:Addr}{o:Obj}{es:Array DictEntry}{ep:Nat}
abbrev sW (d:Addr):Obj:={ cls := .type "dict_items",data := .fields #[.ref d] }
abbrev aJo (d:Addr) (n ep:Nat):Obj:={ cls := .type "dict_itemiterator",data := .fields #[.none, .bool false, .ref d, .int 0 0, .int n 0, .int ep 0, .none, .none] }
theorem mQ {Q:Value->Shared->Prop}(hd:(d == jt)=false)(hT:s.TypeIs (.ref d) "dict")(h:Q (.ref s.heap.objs.size) { s with heap:=s.heap.push (sW d) }):wpAny (model prog w) A (call (.builtin "dict.items") [.ref d]) Q E s:=by
 refine fc xq hT F.entry_dict_items ?_ (F.args_dict_items_1 _)
 unfold Builtin.«dict.items» Builtin.Dict.noArgs
 refine af (af (wpAny_notOrdered_dict hT (aq ?_)))
 show wpAny _ _ (zy d >>= _) _ _ s
 unfold zy;rw[if_neg (by rw[hd];exact bh)]
 refine af (aq (af (fb (aq ⟨_,rfl,h⟩))))
theorem nX {v:Addr}{Q:Value->Shared->Prop}(hv:s.heap.IsItemsView v d)(ho:s.heap.get? d=some o)(hd:o.data = .dict es ep)(h:Q (.ref s.heap.objs.size) { s with heap:=s.heap.push (aJo d es.size ep) }):wpAny (model prog w) A (Bd (.ref v)) Q E s:=by
 have hT:=hv.typeIs
 obtain⟨ov,hov,hcv,hdv⟩:=hv
 refine wpAny_pyIter_slot hT za (fc za hT F.entry_dict_items_iter ?_ (F.args_dict_items_iter_1 _))
 unfold Builtin.«dict_items.__iter__» Builtin.Dict_items.dictOf
 refine af (aq (af (af (gy hov hdv (x := .ref d) rfl (aq (af ?_))))))
 unfold Builtin.Dict_items.newIterator
 refine af (xr ho hd (af (zz ho hd ?_)))
 simp only[show n9 "dict_itemiterator" = true by decide,if_true]
 refine fb (aq ⟨_,rfl,"dict_itemiterator",_,⟨_,bg _ rfl,rfl⟩,jb.lookup,?_⟩) (by simp only[sizeOk,qc,av,ao,bq,qw,tj];omega)
 simpa[ze,qc] using h
theorem nW {it:Addr}{i:Nat}{e:DictEntry}{k0 v0:Value}{Q:Option Value->Shared->Prop}(hit:qk s.heap it d i es.size ep k0 v0)(ho:s.heap.get? d=some o)(hd:o.data = .dict es ep)(hx:es[i]?=some e)
  (q:∀h',A1 h' it d (i+1) es.size ep e.key e.val s.heap.objs.size->h'.get? s.heap.objs.size=some { cls := .type "tuple",data := .seq #[e.key,e.val] }->h'.objs.size=s.heap.objs.size+1 ->
   (∀b o,b≠it->s.heap.get? b=some o->h'.get? b=some o)->Q (some (.ref s.heap.objs.size)) { s with heap:=h' }) :
  wpAny (model prog w) A (wd (.ref it)) Q E s:=by
 obtain⟨hp,g,dr,tk,os⟩:=s
 have hT:Shared.TypeIs ⟨hp,g,dr,tk,os⟩ (.ref it) "dict_itemiterator":=⟨_,hit,rfl⟩
 unfold wd
 refine af (q9 (gi (name:=oi "__next__") hT jb (fc jb hT ud ?_ (t7 _))))
 refine af (aq (af (af ?_)))
 first | refine af (jz hT (aq (af (xj hit rfl ?_)))) | refine af (l9 hT (aq (af (xj hit rfl ?_))))
 simp only[show n9 "dict_itemiterator" = true by decide,if_true]
 show wpAny _ _ (if(Value.ref d == Value.none)=true then _ else _) _ _ _
 rw[if_neg (by exact bh)]
 refine af (aq (af (xr ho hd ?_)))
 rw[if_neg (by simp)]
 refine af (aq (af (zz ho hd ?_)))
 rw[if_neg (by simp)]
 refine aq ?_
 have lt:i<es.size:=by
  rcases Nat.lt_or_ge i es.size with h | h
  ·exact h
  ·rw[su h] at hx;cases hx
 rw[fq lt] at hx
 have hx:=da hx
 simp only[show ¬ ((i:Int)<0) from by omega,if_false,cx,fq lt,hx]
 refine af ?_
 first | refine af (jz hT (aq (af (n6 hT ?_)))) | refine af (l9 hT (aq (af (n6 hT ?_))))
 show wpAny _ _ (setField (.ref it) 3 (ze ((i:Int)+1)) >>= _) _ _ _
 refine af (f9 hit (by simp) λh1 r1 s1=>?_)
 replace s1:je it hp h1:=s1
 replace r1:qk h1 it d (i+1) es.size ep k0 v0:=by
  unfold qk;rw[show((i+1:Nat):Int)=(i:Int)+1 by omega];simpa[ze] using r1
 have T1:Shared.TypeIs ⟨h1,g,dr,tk,os⟩ (.ref it) "dict_itemiterator":=⟨_,r1,rfl⟩
 refine af (ef (af (n6 T1 (af (n6 T1 ?_)))))
 show wpAny _ _ (rm (.ref it) 6 e.key e.val) _ _ ⟨h1,g,dr,tk,os⟩
 unfold rm
 refine af (xg ?_)
 have r2:qk (h1.push { cls := .type "tuple",data := .seq #[e.key,e.val] }) it d (i+1) es.size ep k0 v0:=ak _ r1
 generalize e2:h1.push { cls := .type "tuple",data := .seq #[e.key,e.val] }=h2 at r2
 have z1:h1.objs.size=hp.objs.size:=s1.1
 have il:it<hp.objs.size:=br hit
 have t2:h2.get? hp.objs.size=some { cls := .type "tuple",data := .seq #[e.key,e.val] }:=by rw[<- e2,<- z1];exact bg _ rfl
 have z2:h2.objs.size=hp.objs.size+1:=by rw[<- e2,ji,z1]
 have k2:∀b o,b≠it->hp.get? b=some o->h2.get? b=some o:=λb o hb e=>by rw[<- e2];exact ak _ (s1.extBut b o hb e)
 show wpAny _ _ (qd (.ref it) >>= _) _ _ ⟨h2,g,dr,tk,os⟩
 rw[z1]
 clear e2 r1 s1 T1 z1 h1
 unfold qd
 refine af (af (gy r2 rfl (x := .none) rfl (aq ?_)))
 simp only[if_true]
 refine af (gy r2 rfl (x:=k0) rfl (af (gy r2 rfl (x:=v0) rfl (af (f9 r2 (by simp) λh3 r3 s3=>?_)))))
 replace s3:je it h2 h3:=s3
 replace r3:qk h3 it d (i+1) es.size ep e.key v0:=r3
 refine af (f9 r3 (by simp) λh4 r4 s4=>?_)
 replace s4:je it h3 h4:=s4
 replace r4:qk h4 it d (i+1) es.size ep e.key e.val:=r4
 refine af (f9 r4 (by simp) λh5 r5 s5=>?_)
 replace s5:je it h4 h5:=s5
 replace r5:A1 h5 it d (i+1) es.size ep e.key e.val hp.objs.size:=r5
 refine af (f9 r5 (by simp) λh6 r6 s6=>?_)
 replace s6:je it h5 h6:=s6
 replace r6:A1 h6 it d (i+1) es.size ep e.key e.val hp.objs.size:=r6
 have up:∀b o,b≠it->h2.get? b=some o->h6.get? b=some o:=λb o n e=>s6.extBut _ _ n (s5.extBut _ _ n (s4.extBut _ _ n (s3.extBut _ _ n e)))
 refine af (kg (aq (aq ⟨_,rfl,aq (q h6 r6 (up _ _ (wc il) t2) ?_ λb o n e=>up b o n (k2 b o n e))⟩)))
 show h6.objs.size=hp.objs.size+1
 rw[s6.1,s5.1,s4.1,s3.1,z2]
theorem pJ {it : Addr}{k0 v0 : Value}{Q : Option Value -> Shared -> Prop} (hh : A.handled = none) (hit : qk s.heap it d es.size es.size ep k0 v0) (ho : s.heap.get? d = some o) (hd : o.data = .dict es ep)
    (q : ∀h', Bx it s.heap h' -> Q none { s with heap := h' }) : wpAny (model prog w) A (wd (.ref it)) Q E s := by
  have hT : s.TypeIs (.ref it) "dict_itemiterator" := ⟨_, hit, rfl⟩
  unfold wd
  refine af (q9 (gi (name := oi "__next__") hT jb (fc jb hT ud ?_ (t7 _))))
  refine af (aq (af (af ?_)))
  first | refine af (jz hT (aq (af (xj hit rfl ?_)))) | refine af (l9 hT (aq (af (xj hit rfl ?_))))
  simp only[show n9 "dict_itemiterator" = true by decide, if_true]
  show wpAny _ _ (if(Value.ref d == Value.none) = true then _ else _) _ _ _
  rw[if_neg (by exact bh)]
  refine af (aq (af (xr ho hd ?_)))
  rw[if_neg (by simp)]
  refine af (aq (af (zz ho hd ?_)))
  rw[if_neg (by simp)]
  refine aq ?_
  simp only[show ¬ ((es.size : Int) < 0) from by omega, if_false, cx, su (ay es.size)]
  refine af ?_
  first | refine af (jz hT (aq ?_)) | refine af (l9 hT (aq ?_))
  show wpAny _ _ (setField (.ref it) 2 .none >>= _) _ _ s
  refine af (Ax hit rfl (by simp) ?_)
  show wpAny _ _ (newExc (.type "StopIteration") [] >>= _) _ _ _
  simp only[newExc, newTuple]
  refine af (af (fb (af (m := xf _ _) (ye (a := Value.none) (by first | rfl | (simp only[xf]; rfl)) (fb ?_ (by size_fits)))) (by size_fits)))
  simp only[raiseNew]
  refine af (wpAny_handled ?_)
  rw[show A.in1.handled = none from hh]
  refine af (aq (wpAny_throw ?z))
  case z => refine af (pz (T := "StopIteration") (b := true) ⟨_, bg _ rfl, rfl⟩ isSubtype_stop ?z)
            case z => exact aq (q _ (((vq ..).extBut.push _).push _))
end
def Iti (d:Addr) (xs:PEs) (ep:Nat):It:=
 ⟨λi H=>i<xs.length/\H d=some (dpO d xs ep),λi H v H'=>∃p x,v = .ref p/\H p=none/\xs[i]?=some x/\H'=upd H p (.tup [.ref x.2.1,x.2.2]),λi H=>i=xs.length/\H d=some (dpO d xs ep)⟩
theorem aEu:∀{xs:PEs}{ys:List (PKy×Addr×Value)},Paired aDd xs ys->∀{i:Nat}{x:PKy×Addr×V},xs[i]?=some x->∃y,ys[i]?=some y/\aDd x y
 |_,_, .nil,_,_,h=>by cases h
 |_,_, .cons r t,0,x,h=>by
  simp only[nh,t4] at h
  subst h
  exact⟨_,by simp,r⟩
 |_,_, .cons _ t,i+1,x,h=>by
  obtain⟨y,e,r⟩:=aEu t (i:=i) (by simpa using h)
  exact⟨y,by simpa using e,r⟩
theorem aGy {P:Program}{w:World}{H:Hp}{h:Heap}{d:Addr}{xs:PEs}{ep:Nat}(ok:HOk P w H h)(hd:H d=some (dpO d xs ep)):(d == jt)=false/\∃o es,h.get? d=some o/\o.ExactDict/\o.data = .dict es ep/\es.size=xs.length/\∀(i:Nat) (x:PKy×Addr×V),xs[i]?=some x->∃(e:DictEntry) (v:Value),es[i]?=some e/\e.key = .ref x.2.1/\e.val=v/\RelV x.2.2 v:=by
 obtain⟨z,y,ys,r,o,es,h1,h2,h3,h4,h5⟩:=(show dpP d xs ep h from(ok d _ hd).1)
 have hl:xs.length=ys.length:=qo r
 have hz:es.size=xs.length:=by rw[hl,<- gf,h4,ai]
 refine⟨y,o,es,h1,h2,h3,hz,λi x hx=>?_⟩
 obtain⟨q,hq,rq⟩:=aEu r hx
 refine⟨⟨aHx q.1, .ref q.2.1,q.2.2⟩,q.2.2,?_,by rw[rq.2.1],rfl,rq.2.2⟩
 rw[<- oq,h4,az,hq];rfl
theorem zP {P:Program}{w:World}{K:aa}{es:List Expr}{k:Nat}{pos:Pos}{d it:Addr}{xs:PEs}{ep:Nat}(hne:d≠it) :
  aDc P w K (.Tuple es k pos) (Iti d xs ep) [it] it (λi h=>∃k0 v0,qk h it d i xs.length ep k0 v0) where
 mem:=by simp
 obj:=λi h ⟨k0,v0,e⟩ b hb=>by
  obtain rfl:b=it:=by simpa using hb
  exact⟨_,e,λv z=>by cases z⟩
 keep:=λi h h' ⟨k0,v0,e⟩ kp=>⟨k0,v0,kp it (by simp) _ e⟩
 item:=by
  intro X hP hw hK hc i pins s σ H E I hf st hg
  subst hP hw hK
  obtain⟨k0,v0,st⟩:=st
  obtain⟨hi,hd⟩:=hg
  obtain⟨_,o,es',h1,h2,h3,hz,hat⟩:=aGy I.hok hd
  obtain⟨e,v,he,ek,ev,rv⟩:=hat i xs[i] (ah hi)
  rw[<- hz] at st
  refine nW st h1 h3 he λh' g1 g3 g4 kp=>⟨_,rfl,?_⟩
  refine vw (s:={ s with heap:=h' }) g1 λh2' g1' sb=>?_
  have hn:H s.heap.objs.size=none:=I.hok.fresh (ay _)
  have lt:it<s.heap.objs.size:=br st
  have I1:Inv X pins σ (upd H s.heap.objs.size (.tup [.ref xs[i].2.1,xs[i].2.2])) { s with heap:=s.heap.push { cls := .type "tuple",data := .seq #[e.key,e.val] } }:=
   I.laid (t':=s.toks) (λc o e=>ak _ e) (ay _) (show ObjOk X.prog X.w _ _ _ (.tup [.ref xs[i].2.1,xs[i].2.2]) from⟨show 2<=ba by decide,[e.key,e.val], .cons ek (.cons (by rw[ev];exact rv) .nil),TupN.new _ _⟩)
  have hf1:∀c∈[it],sY X pins (upd H s.heap.objs.size (.tup [.ref xs[i].2.1,xs[i].2.2])) c:=λc hb=>by
   obtain rfl:c=it:=by simpa using hb
   obtain⟨f0,f⟩:=hf c hb
   exact⟨by rw[aL (df lt)];exact f0,f⟩
  have I2:Inv X pins σ (upd H s.heap.objs.size (.tup [.ref xs[i].2.1,xs[i].2.2])) { s with heap:=h' }:=I1.turnedL (t':=s.toks) hf1 λc o nb e=>by
   rcases ur e with⟨eb,eo⟩ | e
   ·subst eb;subst eo
    exact g3
   ·exact kp c o (λq=>nb (by simp[q])) e
  have I3:Inv X pins σ (upd H s.heap.objs.size (.tup [.ref xs[i].2.1,xs[i].2.2])) { s with heap:=h2' }:=I2.turnedL (t':=s.toks) hf1 λc o nb e=>sb.extBut _ _ (λq=>nb (by simp[q])) e
  rw[hz] at g1'
  exact⟨.ref s.heap.objs.size,_,I3,rfl,⟨_,xs[i],rfl,hn,ah hi,rfl⟩,⟨_,_,g1'⟩,λc hb=>(hf1 c hb).1⟩
 done:=by
  intro X hP hw hK hc i pins s σ H E I hf st hg
  subst hP hw hK
  obtain⟨k0,v0,st⟩:=st
  obtain⟨hi,hd⟩:=hg
  subst hi
  obtain⟨_,o,es',h1,h2,h3,hz,_⟩:=aGy I.hok hd
  rw[<- hz] at st
  refine pJ (I.ok.hd hc) st h1 h3 λh' kp=>⟨rfl,?_⟩
  exact I.turnedL (t':=s.toks) hf λc o n e=>kp c o (λq=>n (by simp[q])) e
 self:=λ_ _ s _ _ st q=>by
  obtain⟨k0,v0,st⟩:=st
  exact PySem.W.kcp_self st q
def aEO (td:TE):TI:=λσ H R=>td σ H λx H1=>∃d xs ep,x = .ref d/\H1 d=some (dpO d xs ep)/\R (Iti d xs ep) H1
theorem aDC {X:Cx}{es:List Expr}{k:Nat}{po apos cpos:Pos}{o:Expr}{td:TE}(ho:PE X o td)
  (hbase:qu o "items" X.env (eval o X.env)=eval o X.env:=by rfl) (hline:(apos.endLine == cpos.line)=true:=by rfl) :
  PI X (.Tuple es k po) (.Call (.Attribute o "items" apos) [] [] cpos) (aEO td):=by
 intro pins s σ H R I h
 refine qv hbase hline (thn (ho pins s σ H _ I h) λv s1 ⟨x,H1,I1,r1,d,xs,ep,ex,hd,q1⟩=>?_)
 subst ex
 obtain rfl:v=Value.ref d:=r1
 obtain⟨ysm,ob,es',h1,h2,h3,hz,_⟩:=aGy I1.hok hd
 have hT:s1.TypeIs (.ref d) "dict":=⟨ob,h1,h2.1⟩
 refine⟨"dict","dict.items",F.plainAttrs_dict,xq,F.type_dict_items,hT,λa ea=>by cases ea;exact⟨ob,h1,h2.2.1⟩,n5 rfl (vh (mQ ysm hT ?_))⟩
 have hv:(s1.heap.push (sW d)).IsItemsView s1.heap.objs.size d:=⟨_,bg _ rfl,rfl,rfl⟩
 have h1':(s1.heap.push (sW d)).get? d=some ob:=ak _ h1
 refine nX (s:={ s1 with heap:=s1.heap.push (sW d) }) hv h1' h3 ?_
 have I2:Inv X pins σ H1 { s1 with heap:=s1.heap.push (sW d) }:=I1.kept (t':=s1.toks) λb o e=>ak _ e
 have I3:Inv X pins σ H1 { s1 with heap:=(s1.heap.push (sW d)).push (aJo d es'.size ep) }:=I2.kept (t':=s1.toks) λb o e=>ak _ e
 have hne:d≠(s1.heap.push (sW d)).objs.size:=df (br h1')
 refine⟨_,[(s1.heap.push (sW d)).objs.size],_,_,H1,rfl,I3,zP hne,⟨_,_,by rw[<- hz];exact bg _ rfl⟩,λc hb=>?_,q1⟩
 obtain rfl:c=(s1.heap.push (sW d)).objs.size:=by simpa using hb
 exact I2.fpOk (ay _) (I2.hok.fresh (ay _))
theorem aCv {d:Addr}{xs:PEs}{ep:Nat}{g:TG}{tb:TS}{D:hU}{σ:St}{H:Hp}(Pv:Nat->St->Hp->Prop)(h0:Pv 0 σ H)(hl:∀i σ H,i<=xs.length->Pv i σ H->H d=some (dpO d xs ep))
  (hs:∀i x σ H p,xs[i]?=some x->H p=none->Pv i σ H->g (.ref p) σ (upd H p (.tup [.ref x.2.1,x.2.2])) λσ2 H2=>tb { D with nx:=Pv (i+1),ct:=Pv (i+1),bk:=D.nx } σ2 H2) (hd:∀σ H,Pv xs.length σ H->D.nx σ H) :
  eK (Iti d xs ep) g tb D σ H:=by
 refine⟨λi m σ H=>m=xs.length - i/\i<=xs.length/\Pv i σ H,⟨xs.length,by simp,bc _,h0⟩,?_⟩
 rintro i m σ H ⟨rfl,hi,p⟩
 have q1:=hl i σ H hi p
 by_cases hlt:i<xs.length
 ·refine .inr ⟨⟨hlt,q1⟩,Pv (i+1),λσ' H' p'=>⟨xs.length - (i+1),by omega,rfl,hlt,p'⟩,λv H' ⟨a,x,e1,e2,e3,e4⟩=>?_⟩
  subst e1;subst e4
  exact hs i x σ H a e3 e2 p
 ·obtain rfl:i=xs.length:=by omega
  exact .inl ⟨⟨rfl,q1⟩,hd σ H p⟩
def Itv (K:aa) (l:Addr) (n:Nat):It:=
 ⟨λi H=>i<n/\∃xs,SqL K H l xs/\xs.length=n,λi H x H'=>H'=H/\∀xs,SqL K H l xs->xs[n - 1 - i]?=some x,λi H=>i=n/\∃xs,SqL K H l xs/\xs.length=n⟩
theorem aDf {P:Program}{w:World}{K:aa}{tg:Expr}{l it:Addr}{n:Nat}(hne:l≠it):aDc P w K tg (Itv K l n) [it] it (λi h=>h.IsRevIter it l ((n:Int) - 1 - (i:Int))) where
 mem:=by simp
 obj:=λi h st b hb=>by
  obtain rfl:b=it:=by simpa using hb
  obtain⟨o,e,c,d⟩:=st
  exact⟨o,e,λv z=>by rw[d] at z;cases z⟩
 keep:=λi h h' st k=>st.at λo e=>k it (by simp) o e
 item:=by
  intro X hP hw hK hc i pins s σ H E I hf st hg
  subst hP hw hK
  obtain⟨hi,xs,hq,hn⟩:=hg
  obtain⟨its,r,pl,hz⟩:=I.list hq
  have hl:its.toArray.size=n:=by rw[av,<- r.length,hn]
  obtain⟨f0,f1,f2,f3,f4,f5⟩:=hf it (by simp)
  have W:=Walks.listRev (prog:=X.prog) (w:=X.w) (I.ok.hd hc) it l hne its.toArray
  rw[hl] at W
  refine W.item i s _ _ hi ⟨by omega,st,pl.isList⟩ λv h' tk hv st' kk=>?_
  have I1:Inv X pins σ H { s with heap:=h',toks:=tk }:=I.turned (λb o hb e=>kk b o (by simpa using hb) e) f0 f1 f3 f4 f5
  have st1:=st'.2.1
  obtain⟨o1,e1,c1,d1⟩:=id st1
  have hx:xs[n - 1 - i]?=some (xs[n - 1 - i]'(by omega)):=ah (by omega)
  obtain⟨u,hu,ru⟩:=r.get hx
  obtain rfl:u=v:=by rw[List.getElem?_toArray,hu] at hv;exact da hv
  exact⟨u,rfl,aDX (s:={ s with heap:=h',toks:=tk }) e1 c1 d1 (by decide) ⟨xs[n - 1 - i]'(by omega),H,I1,ru,⟨rfl,λys hy=>by rw[I.list_inj hy hq];exact hx⟩,st1,λb hb=>(hf b hb).1⟩⟩
 done:=by
  intro X hP hw hK hc i pins s σ H E I hf st hg
  subst hP hw hK
  obtain⟨hi,xs,hq,hn⟩:=hg
  subst hi
  obtain⟨its,r,pl,hz⟩:=I.list hq
  have hl:its.toArray.size=i:=by rw[av,<- r.length,hn]
  obtain⟨f0,f1,f2,f3,f4,f5⟩:=hf it (by simp)
  have W:=Walks.listRev (prog:=X.prog) (w:=X.w) (I.ok.hd hc) it l hne its.toArray
  rw[hl] at W
  refine W.done s _ _ ⟨ay _,st,pl.isList⟩ λh' tk kk=>⟨rfl,I.turned (λb o hb e=>kk b o (by simpa using hb) e) f0 f1 f3 f4 f5⟩
 self:=λ_ _ _ _ _ st h=>Ap st h
def aKu (K:aa) (ta:TA):TI:=λσ H R=>ta σ H λvs H1=>∃l xs,vs=[.ref l]/\SqL K H1 l xs/\R (Itv K l xs.length) H1
theorem vR:ei "reversed" = some (.type "reversed"):=by decide+kernel
theorem aIs {X:Cx}{K:aa}{tg a:Expr}{ta:TA}{p pos:Pos}(hK:X.K=K)(hg:Gl X "reversed")(hm:X.mg "reversed" = none)(ha:PA X [a] ta)(hs:fi [a] X.env=[(false,eval a X.env)]:=by rfl) :
  PI X tg (.Call (.Name "reversed" p) [a] [] pos) (aKu K ta):=by
 subst hK
 intro pins s σ H R I h
 refine Call_ (mZ I hg hm vR (jk (thn (ha pos pins s σ H _ I h) λus s1 ⟨vs,H1,I1,r1,q1⟩=>?_) hs rfl))
 obtain⟨l,xs,e,q2,q⟩:=q1
 subst e
 obtain⟨u1,rfl,e1⟩:=nQ r1
 obtain rfl:u1=Value.ref l:=e1
 obtain⟨its,rr,pl,hz⟩:=I1.list q2
 have hl:its.toArray.size=xs.length:=by rw[av,<- rr.length]
 have hlt:l<s1.heap.objs.size:=let⟨o,e,_⟩:=pl.isList;br e
 refine call_reversed_list pl.isList ?_
 rw[hl]
 have st:(s1.heap.push (revObj l ((xs.length:Int) - 1))).IsRevIter s1.heap.objs.size l ((xs.length:Int) - 1):=⟨_,bg _ rfl,rfl,rfl⟩
 refine Ap (s:={ s1 with heap:=s1.heap.push (revObj l ((xs.length:Int) - 1)) }) st ?_
 refine⟨_,[s1.heap.objs.size],_,_,H1,rfl,I1.kept (t':=s1.toks) λb o e=>ak _ e,aDf (n:=xs.length) (df hlt),by simpa using st,λc hb=>?_,q⟩
 obtain rfl:c=s1.heap.objs.size:=by simpa using hb
 exact I1.fpOk (ay _) (I1.hok.fresh (ay _))
theorem aFG {K:aa}{l:Addr}{xs:List V}{n:Nat}{g:TG}{tb:TS}{D:hU}{σ:St}{H:Hp}(hn:xs.length=n)(Pv:Nat->St->Hp->Prop)(h0:Pv 0 σ H)(hl:∀i σ H,i<=n->Pv i σ H->SqL K H l xs)
  (hs:∀i x σ H,i<n->xs[n - 1 - i]?=some x->Pv i σ H->g x σ H λσ2 H2=>tb { D with nx:=Pv (i+1),ct:=Pv (i+1),bk:=D.nx } σ2 H2) (hd:∀σ H,Pv n σ H->D.nx σ H) :
  eK (Itv K l n) g tb D σ H:=by
 refine⟨λi m σ H=>m=n - i/\i<=n/\Pv i σ H,⟨n,by simp,bc _,h0⟩,?_⟩
 rintro i m σ H ⟨rfl,hi,p⟩
 have q1:=hl i σ H hi p
 by_cases hlt:i<n
 ·refine .inr ⟨⟨hlt,xs,q1,hn⟩,Pv (i+1),λσ' H' p'=>⟨n - (i+1),by omega,rfl,hlt,p'⟩,λv H' ⟨e1,e2⟩=>?_⟩
  subst e1
  exact hs i v σ _ hlt (e2 xs q1) p
 ·obtain rfl:i=n:=by omega
  exact .inl ⟨⟨rfl,xs,q1,hn⟩,hd σ H p⟩
def aKH (K:aa) (ta tb:TE):TE:=λσ H Q=>ta σ H λx H1=>∃c,aHt K x H1 c/\if c=true then Q x H1 else tb σ H1 Q
theorem aHI {X:Cx}{K:aa}{a b:Expr}{rest:List Expr}{pos:Pos}{ta tb:TE}(hK:X.K=K)(ha:PE X a ta)(hb:PE X (.BoolOp .Or (b :: rest) pos) tb):PE X (.BoolOp .Or (a :: b :: rest) pos) (aKH K ta tb):=by
 subst hK
 intro pins s σ H Q I h
 refine BoolOp_or (thn (ha pins s σ H _ I h) λv s1 ⟨x,H1,I1,r1,c,tr,q1⟩=>?_)
 refine thn (aFa pins s1 σ H1 x v (λk H'=>k=c/\H'=H1) I1 r1 ⟨c,tr,rfl,rfl⟩) λk s2 ⟨H2,I2,ek,eH⟩=>?_
 subst ek eH
 cases k with
 |false=>exact hb pins s2 σ _ Q I2 (by simpa using q1)
 |true=>exact⟨x,_,I2,r1,by simpa using q1⟩
def OkN (P:Program) (w:World) (K:aa) (mg:Str->Option Value) (base:Heap) (x:Str) (st:Stmt) (k:Nat) (N ps:List Str) (T:TS):Prop:=
 ∀(f:Addr) (fd:FuncData) (sp:Sp),Fun K x x st f fd->(∀vs H Q E,sp vs H Q E->vs.length=ps.length)->(∀vs H Q E,sp vs H Q E->T { nx:=λ_ H'=>Q .non H',rt:=Q } (start N vs) H)->FnOk P w K mg base CX0 k f fd ps sp
def OkX (P:Program) (w:World) (K:aa) (mg:Str->Option Value) (base:Heap) (x:Str) (st:Stmt) (k:Nat) (N ps:List Str) (T:XK->TS):Prop:=
 ∀(f:Addr) (fd:FuncData) (sp:Sp),Fun K x x st f fd->(∀vs H Q E,sp vs H Q E->vs.length=ps.length)->(∀vs H Q E,sp vs H Q E->T E { nx:=λ_ H'=>Q .non H',rt:=Q } (start N vs) H)->FnOk P w K mg base (sH P w) k f fd ps sp
inductive FnIn (K:aa) (nm x:Str) (st:Stmt):Prop
 |mk {f:Addr}{od an:Option Addr}{sl:Array (Option Value)}{oc kV dc pm cd ct:Value} (a:dn K cp nm=some (some (.ref f))) (l:K.lookup f=some ⟨oc,od, .func (jw x x (eS st) (cZ st) (bQ st) .none kV dc pm an cd ct),sl⟩) (c:xb K cd x=true) (k:o9 K (.ref f)=true):FnIn K nm x st
structure ZIn (K:aa):Prop where
 z0:dn K cp "len" = some none
 z1:dn K cp "all" = some none
 z2:dn K cp "min" = some none
 z3:dn K cp "max" = some none
 z4:dn K cp "sum" = some none
 z5:dn K cp "isinstance" = some none
 z6:dn K cp "sorted" = some none
 z7:dn K cp "tuple" = some none
 z8:dn K cp "list" = some none
 z9:dn K cp "range" = some none
 z10:dn K cp "int" = some none
 z11:dn K cp "bool" = some none
 z12:dn K cp "zip" = some none
 z13:dn K cp "repr" = some none
 z14:dn K cp "enumerate" = some none
 z15:dn K cp "reversed" = some none
 z16:dn K cp "str" = some none
 z17:dn K cp "set" = some none
 z18:dn K cp "abs" = some none
def nI (g:Nat->Value):Nat->List Str->List Value
 |_,[]=>[]
 |i,_ :: ps=>g i :: nI g (i+1) ps
theorem yW (g:Nat->Value):∀(ps:List Str) (us:List Value) (i:Nat),us.length=ps.length->(∀j,us.getD j .none=g (i+j))->us=nI g i ps
 |[],us,i,h,_=>qy.mp h
 |p :: ps,[],i,h,_=>by cases h
 |p :: ps,u :: us,i,h,q=>by
  show u :: us=g i :: nI g (i+1) ps
  rw[show g i=u from(q 0).symm,<- yW g ps us (i+1) (Nat.succ.inj h) λj=>by rw[show i+1+j=i+(j+1) by omega,<- q (j+1)];rfl]
section
variable {P:Program}{w:World}{K:aa}{mg:Str->Option Value}{base h:Heap}{x nm:Str}{st:Stmt}{k:Nat}{N ps:List Str}{sp:Sp}
theorem okN {T:TS}(hb:∀(f:Addr) (cdv:Value) (A:Around) (outer:List Env) (s:Shared) (H:Hp) (E:XK),N.Nodup->Room k (A.deeper (zh x (bQ st) s.heap.objs.size f cdv))->PSs (vC CX0 P w K mg base N x (bQ st) f cdv A outer s H E).nox (cZ st) T)
  (S:kC N ps (bQ st):=by exact⟨rfl,rfl,rfl,by decide+kernel,rfl,by decide+kernel,by decide+kernel⟩):OkN P w K mg base x st (k+1) N ps T:=
 λf fd sp F len rd=>F.ok S len λcdv A outer s H vs Q E hr h=>⟨_,hb f cdv A outer s H E S.nd hr,rd vs H Q E h⟩
theorem okX {T:XK->TS}(hb:∀(f:Addr) (cdv:Value) (A:Around) (outer:List Env) (s:Shared) (H:Hp) (E:XK),N.Nodup->Room k (A.deeper (zh x (bQ st) s.heap.objs.size f cdv))->PSs (vC (sH P w) P w K mg base N x (bQ st) f cdv A outer s H E) (cZ st) (T E))
  (S:kC N ps (bQ st):=by exact⟨rfl,rfl,rfl,by decide+kernel,rfl,by decide+kernel,by decide+kernel⟩):OkX P w K mg base x st (k+1) N ps T:=
 λf fd sp F len rd=>F.okX S len λcdv A outer s H vs Q E hr h=>⟨_,hb f cdv A outer s H E S.nd hr,rd vs H Q E h⟩
theorem rE {f:Addr}{fd:FuncData}(F:Fun K x x st f fd)(b:∀(kV doc pm:Value) (an:Option Addr) (cdv ct:Value) (g:Nat->Value),Af (jw x x (eS st) (cZ st) (bQ st) .none kV doc pm an cdv ct) ⟨nI g 0 ps,[]⟩=pure (ps.zip (nI g 0 ps))):Binds K fd ps []:=
 F.binds λkV doc pm an cdv ct us hl=>by rw[yW (λi=>us.getD i .none) ps us 0 hl λj=>by rw[Nat.zero_add]];exact b ..
theorem FnIn.dN {T:TS}(F:FnIn K nm x st)(P:Program)(w:World)(base:Heap)(X:K.In h)(G:h.Ns cp mg)(o:OkN P w K mg base x st k N ps T)(rd:∀vs H Q E,sp vs H Q E->T { nx:=λ_ H'=>Q .non H',rt:=Q } (start N vs) H)
  (len:∀vs H Q E,sp vs H Q E->vs.length=ps.length:=by(intro _ _ _ _ h;first | (cases h;subst_vars;rfl;done) | repeat (first | (obtain⟨rfl,_⟩:=h;rfl) | obtain⟨_,h⟩:=h)))
  (b:∀(kV doc pm:Value) (an:Option Addr) (cdv ct:Value) (g:Nat->Value),Af (jw x x (eS st) (cZ st) (bQ st) .none kV doc pm an cdv ct) ⟨nI g 0 ps,[]⟩=pure (ps.zip (nI g 0 ps)):=by intros;rfl):Def P w K mg base nm k ps sp:=by
 obtain⟨a,l,c,kk⟩:=F
 have F:=yY l c kk
 exact⟨_,_,o _ _ _ F len rd,i5 X G a,kk,rE F b⟩
theorem FnIn.dX {T:XK->TS}(F:FnIn K nm x st)(P:Program)(w:World)(base:Heap)(X:K.In h)(G:h.Ns cp mg)(o:OkX P w K mg base x st k N ps T)(rd:∀vs H Q E,sp vs H Q E->T E { nx:=λ_ H'=>Q .non H',rt:=Q } (start N vs) H)
  (len:∀vs H Q E,sp vs H Q E->vs.length=ps.length:=by(intro _ _ _ _ h;first | (cases h;subst_vars;rfl;done) | repeat (first | (obtain⟨rfl,_⟩:=h;rfl) | obtain⟨_,h⟩:=h)))
  (b:∀(kV doc pm:Value) (an:Option Addr) (cdv ct:Value) (g:Nat->Value),Af (jw x x (eS st) (cZ st) (bQ st) .none kV doc pm an cdv ct) ⟨nI g 0 ps,[]⟩=pure (ps.zip (nI g 0 ps)):=by intros;rfl):DefX P w K mg base nm k ps sp:=by
 obtain⟨a,l,c,kk⟩:=F
 have F:=yY l c kk
 exact⟨_,_,o _ _ _ F len rd,i5 X G a,kk,rE F b⟩
theorem FnIn.d0 (F:FnIn K nm x st)(X:K.In h)(G:h.Ns cp mg)(no:∀vs H Q E,¬ sp vs H Q E)
  (b:∀(kV doc pm:Value) (an:Option Addr) (cdv ct:Value) (g:Nat->Value),Af (jw x x (eS st) (cZ st) (bQ st) .none kV doc pm an cdv ct) ⟨nI g 0 ps,[]⟩=pure (ps.zip (nI g 0 ps)):=by intros;rfl):Def P w K mg base nm k ps sp:=by
 obtain⟨a,l,c,kk⟩:=F
 have F:=yY l c kk
 exact⟨_,_,⟨λ_ _ _ _ h=>(no _ _ _ _ h).elim,λ_ _ _ _ _ _ _ _ _ _ _ _ _ h=>(no _ _ _ _ h).elim⟩,i5 X G a,kk,rE F b⟩
theorem FnIn.law {fa:Addr}{sp:Sp}(F:FnIn K "law" "law" st)(X:K.In h)(G:h.Ns cp mg)(hfa:mg "law" = some (.ref fa)){T:TS}
  (o:∀base:Heap,OkN P w K mg base "law" st k N ["script"] T) (rd:∀vs H Q E,sp vs H Q E->T { nx:=λ_ H'=>Q .non H',rt:=Q } (start N vs) H)
  (len:∀vs H Q E,sp vs H Q E->vs.length=1:=by(intro _ _ _ _ h;first | (cases h;subst_vars;rfl;done) | repeat (first | (obtain⟨rfl,_⟩:=h;rfl) | obtain⟨_,h⟩:=h)))
  (b:∀(kV doc pm:Value) (an:Option Addr) (cdv ct:Value) (v:Value),Af (jw "law" "law" (eS st) (cZ st) (bQ st) .none kV doc pm an cdv ct) ⟨[v],[]⟩=pure [(("script" : Str),v)]:=by intros;rfl) :
  ∃fd:FuncData,(∀(s:Shared) (v:Value),A5 s fd ⟨[v],[]⟩ [("script",v)])/\∀base:Heap,K.In base->base.Ns cp mg->FnOk P w K mg base CX0 k fa fd ["script"] sp:=by
 obtain⟨a,l,c,kk⟩:=F
 have e:=hfa.symm.trans (i5 X G a)
 cases e
 exact⟨_,λs v => .of_eq (b ..),λbase _ _=>o base _ _ _ (yY l c kk) len rd⟩
theorem ZIn.blt (Z:ZIn K)(X:K.In h)(G:h.Ns cp mg):aKB mg:=
 let m {x} (z:dn K cp x=some none):=PySem.W.mg_none_of X G z
 ⟨⟨⟨⟨m Z.z0,m Z.z1,m Z.z2,m Z.z3,m Z.z4,m Z.z5,m Z.z6,m Z.z7,m Z.z8,m Z.z9,m Z.z10,m Z.z11⟩,m Z.z12,m Z.z13,m Z.z14,m Z.z15,m Z.z16⟩,m Z.z17⟩,m Z.z18⟩
end
end L2
namespace L2
open PySem
theorem aJQ {β:Type}(n:Nat)(g:Nat->β):((aw n).flatMap λi=>[g i])=(aw n).map g:=by
 induction aw n with
 |nil=>rfl
 |cons x l ih=>rw[gu,ih];rfl
theorem dQ {H H':Hp}{p:Addr}{o:HO}(h:H p=none)(s:Same H H'):Same H (upd H' p o):=λb u e=>by rw[aL (aK e h)];exact s _ _ e
section
variable {K:aa}
theorem aFj {H:Hp}{a:Addr}{rs:List V}{T:List (List Int)}(h:SqT K H a rs)(r:Rows K H rs T):Sh K H (gY T) (.ref a):=⟨a,rs,rfl,h,ShL.of_rows r.1 r.2⟩
end
open PySem.SeqAt
section
variable {X:Cx}
end
end L2
namespace L2
open PySem PySem.W PyProof.Rows
section
variable (r:Nat->Int)
def rlt (i j:Nat):Bool:=decide (r i<r j)
def bC {α:Type}:KasT α->α
 | .ret a=>a
 | .ask i j k=>bC (k (rlt r i j))
theorem dC {α β:Type}{f:α->KasT β}:∀t:KasT α,bC r (t.bind f)=bC r (f (bC r t))
 | .ret _=>rfl
 | .ask i j k=>by
  show bC r ((k (rlt r i j)).bind f)=_
  exact dC (k (rlt r i j))
def Kr (p:Array Nat) (i:Nat):Int:=r (p.getD i 0)
def Srt (p:Array Nat) (n:Nat):Prop:=∀i j,i<=j->j<n->Kr r p i<=Kr r p j
def Dsc (p:Array Nat) (n:Nat):Prop:=∀i j,i<=j->j<n->Kr r p j<=Kr r p i
variable {r}
theorem iT {p q:Array Nat}{i j:Nat}(h:p[i]?=q[j]?):Kr r p i=Kr r q j:=by
 unfold Kr
 rw[dy,dy,h]
theorem aBJ {p:Array Nat}{a b:Nat}(h:Kr r p a<Kr r p b):rlt r (p.getD a 0) (p.getD b 0)=true:=decide_eq_true h
theorem aAW {p:Array Nat}{a b:Nat}(h:¬ Kr r p a<Kr r p b):¬ rlt r (p.getD a 0) (p.getD b 0)=true:=λe=>h (of_decide_eq_true e)
theorem aGc {p:Array Nat}{i j:Nat}(hj:j<=p.size)(k:Nat):Kr r (uh p i j) k=if i<=k/\k<j then Kr r p (i+j - 1 - k) else Kr r p k:=by
 have:=getElem?_mirror_all (i:=i) hj k
 by_cases c:i<=k/\k<j
 ·rw[if_pos c] at this ⊢;exact iT this
 ·rw[if_neg c] at this ⊢;exact iT this
theorem aKl {p:Array Nat}{src d:Nat}(hs:src<p.size)(hd:d<=src)(k:Nat):Kr r (bubble p src d) k=if k=src - d then Kr r p src else if src - d<k/\k<=src then Kr r p (k - 1) else Kr r p k:=by
 have:=getElem?_bubble hs d hd k
 by_cases c:k=src - d
 ·rw[if_pos c] at this ⊢;exact iT this
 ·rw[if_neg c] at this ⊢
  by_cases e:src - d<k/\k<=src
  ·rw[if_pos e] at this ⊢;exact iT this
  ·rw[if_neg e] at this ⊢;exact iT this
theorem dW (p:Array Nat)(i j:Nat):(uh p i j).Perm p:=mirror_perm _ _ _ _
theorem wC {p:Array Nat}:∀f n,1<=n->Srt r p n->n<=bC r (yi p f n)/\bC r (yi p f n)<=n+f/\Srt r p (bC r (yi p f n))/\(bC r (yi p f n)<n+f->Kr r p (bC r (yi p f n))<Kr r p (bC r (yi p f n) - 1))
 |0,n,h1,hs=>⟨ay _,ay _,hs,λh=>absurd h (j7 _)⟩
 |f+1,n,h1,hs=>by
  have e:bC r (yi p (f+1) n)=bC r (if rlt r (p.getD n 0) (p.getD (n - 1) 0)=true then .ret n else yi p f (n+1)):=rfl
  rw[e]
  by_cases c:Kr r p n<Kr r p (n - 1)
  ·rw[if_pos (aBJ c)]
   exact⟨ay _,nv _ _,hs,λ_=>c⟩
  ·rw[if_neg (aAW c)]
   obtain⟨a1,a2,a3,a4⟩:=wC (p:=p) f (n+1) (by omega) λi j hij hj=>by
    by_cases e1:j=n
    ·subst e1
     by_cases e2:i=j
     ·subst e2;omega
     ·have:=hs i (j - 1) (by omega) (by omega);omega
    ·exact hs i j hij (by omega)
   exact⟨by omega,by omega,a3,λh=>a4 (by omega)⟩
theorem qD {p:Array Nat}{i j:Nat}(hj:j<=p.size)(h:∀k,i<=k->k<j->Kr r p k=Kr r p (j - 1))(k:Nat):Kr r (uh p i j) k=Kr r p k:=by
 rw[aGc hj]
 split
 ·next c=>rw[h _ (by omega) (by omega),h k c.1 c.2]
 ·rfl
theorem mD:∀f (p:Array Nat) n q,1<=n->n+f<=p.size->q<n->Dsc r p n->(∀i,n - (q+1)<=i->i<n->Kr r p i=Kr r p (n - 1))->∀R,R=bC r (wx f p n q) ->
  R.1.size=p.size/\R.1.Perm p/\n<=R.2.1/\R.2.1<=n+f/\R.2.2<R.2.1/\Dsc r R.1 R.2.1/\∀i,R.2.1 - (R.2.2+1)<=i->i<R.2.1->Kr r R.1 i=Kr r R.1 (R.2.1 - 1)
 |0,p,n,q,h1,hz,hq,hd,he,R,hR=>by subst hR;exact⟨rfl,rf _,ay _,ay _,hq,hd,he⟩
 |f+1,p,n,q,h1,hz,hq,hd,he,R,hR=>by
  have e:bC r (wx (f+1) p n q)=bC r (if rlt r (p.getD n 0) (p.getD (n - 1) 0)=true then(if q > 0 then wx f (uh p (n - (q+1)) n) (n+1) 0 else wx f p (n+1) 0) else .ask (p.getD (n - 1) 0) (p.getD n 0) λd=>if d=true then .ret (p,n,q) else wx f p (n+1) (q+1)):=rfl
  rw[e] at hR
  by_cases c:Kr r p n<Kr r p (n - 1)
  ·rw[if_pos (aBJ c)] at hR
   have hd1:Dsc r p (n+1):=λi j hij hj=>by
    by_cases e1:j=n
    ·subst e1
     by_cases e2:i=j
     ·subst e2;omega
     ·have:=hd i (j - 1) (by omega) (by omega);omega
    ·exact hd i j hij (by omega)
   by_cases c2:q > 0
   ·rw[if_pos c2] at hR
    have kk:=λk=>qD (r:=r) (p:=p) (i:=n - (q+1)) (j:=n) (by omega) he k
    have sz:(uh p (n - (q+1)) n).size=p.size:=AI _ _ _ _
    obtain⟨a1,a2,a3,a4,a5,a6,a7⟩:=mD f (uh p (n - (q+1)) n) (n+1) 0 (by omega) (by rw[sz];omega) (by omega) (λi j hij hj=>by rw[kk,kk];exact hd1 i j hij hj) (λi h2 h3=>by rw[show i=n by omega];rfl) R hR
    exact⟨a1.trans sz,a2.trans (dW _ _ _),by omega,by omega,a5,a6,a7⟩
   ·rw[if_neg c2] at hR
    obtain⟨a1,a2,a3,a4,a5,a6,a7⟩:=mD f p (n+1) 0 (by omega) (by omega) (by omega) hd1 (λi h2 h3=>by rw[show i=n by omega];rfl) R hR
    exact⟨a1,a2,by omega,by omega,a5,a6,a7⟩
  ·rw[if_neg (aAW c)] at hR
   have e2:bC r (KasT.ask (p.getD (n - 1) 0) (p.getD n 0) λd=>if d=true then .ret (p,n,q) else wx f p (n+1) (q+1))=bC r (if rlt r (p.getD (n - 1) 0) (p.getD n 0)=true then .ret (p,n,q) else wx f p (n+1) (q+1)):=rfl
   rw[e2] at hR
   by_cases d:Kr r p (n - 1)<Kr r p n
   ·rw[if_pos (aBJ d)] at hR
    subst hR
    exact⟨rfl,rf _,ay _,nv _ _,hq,hd,he⟩
   ·rw[if_neg (aAW d)] at hR
    obtain⟨a1,a2,a3,a4,a5,a6,a7⟩:=mD f p (n+1) (q+1) (by omega) (by omega) (by omega) (λi j hij hj=>by
     by_cases e1:j=n
     ·subst e1
      by_cases e2:i=j
      ·subst e2;omega
      ·have:=hd i (j - 1) (by omega) (by omega);omega
     ·exact hd i j hij (by omega)) (λi h2 h3=>by
     show Kr r p i=Kr r p n
     by_cases e1:i=n
     ·rw[e1]
     ·have:=he i (by omega) (by omega);omega) R hR
    exact⟨a1,a2,by omega,by omega,a5,a6,a7⟩
def aDL (r:Nat->Int) (nrem n:Nat) (p:Array Nat) (R:Nat×Array Nat):Prop:=R.2.size=p.size/\R.2.Perm p/\n<=R.1/\R.1<=nrem/\Srt r R.2 R.1
theorem uI {n nrem:Nat}{p:Array Nat}(h1:1<=n)(hn:n<=nrem)(hz:nrem<=p.size)(hd:Dsc r p n):aDL r nrem n p (bC r (BA n nrem p)):=by
 unfold BA
 rw[dC]
 have hs:Srt r (uh p 0 n) n:=λi j hij hj=>by
  rw[aGc (by omega),aGc (by omega),if_pos ⟨by omega,by omega⟩,if_pos ⟨by omega,hj⟩]
  exact hd _ _ (by omega) (by omega)
 obtain⟨a1,a2,a3,_⟩:=wC (p:=uh p 0 n) (nrem - n) n h1 hs
 exact⟨AI _ _ _ _,dW _ _ _,a1,by show bC r _<=_;omega,a3⟩
theorem lC {n nrem:Nat}{p:Array Nat}(hn:n+1<=nrem)(hz:nrem<=p.size)(hd:Dsc r p (n+1)):aDL r nrem 1 p (bC r (wz n nrem p)):=by
 unfold wz
 rw[dC]
 obtain⟨a1,a2,a3,a4,a5,a6,a7⟩:=mD (nrem - (n+1)) p (n+1) 0 (by omega) (by omega) (by omega) hd (λi h2 h3=>by rw[show i=n by omega];rfl) _ rfl
 generalize bC r (wx (nrem - (n+1)) p (n+1) 0)=R at a1 a2 a3 a4 a5 a6 a7 ⊢
 by_cases c:R.2.2 > 0
 ·rw[if_pos c]
  have kk:=λk=>qD (r:=r) (p:=R.1) (i:=R.2.1 - (R.2.2+1)) (j:=R.2.1) (by omega) a7 k
  have sz:(uh R.1 (R.2.1 - (R.2.2+1)) R.2.1).size=R.1.size:=AI _ _ _ _
  obtain⟨b1,b2,b3,b4,b5⟩:=uI (r:=r) (n:=R.2.1) (nrem:=nrem) (p:=uh R.1 (R.2.1 - (R.2.2+1)) R.2.1) (by omega) (by omega) (by rw[sz];omega) λi j hij hj=>by rw[kk,kk];exact a6 i j hij hj
  exact⟨b1.trans (sz.trans a1),b2.trans ((dW _ _ _).trans a2),by omega,b4,b5⟩
 ·rw[if_neg c]
  obtain⟨b1,b2,b3,b4,b5⟩:=uI (r:=r) (n:=R.2.1) (nrem:=nrem) (p:=R.1) (by omega) (by omega) (by omega) a6
  exact⟨b1.trans a1,b2.trans a2,by omega,b4,b5⟩
theorem aCm {nrem:Nat}{p:Array Nat}(h1:1<=nrem)(hz:nrem<=p.size):aDL r nrem 1 p (bC r (A2 nrem p)):=by
 unfold A2
 rw[dC]
 obtain⟨a1,a2,a3,a4⟩:=wC (r:=r) (p:=p) (nrem - 1) 1 (ay _) λi j hij hj=>by rw[show i=j by omega];omega
 generalize bC r (yi p (nrem - 1) 1)=n at a1 a2 a3 a4 ⊢
 by_cases c:(n == nrem)=true
 ·rw[if_pos c]
  exact⟨rfl,rf _,a1,by show n<=nrem;omega,a3⟩
 ·rw[if_neg c]
  have cn:n≠nrem:=λe=>c (by rw[e];exact beq_self_eq_true _)
  have lt:=a4 (by omega)
  by_cases d:n > 1
  ·rw[if_pos d]
   show aDL r nrem 1 p (bC r (if rlt r (p.getD 0 0) (p.getD (n - 1) 0)=true then .ret (n,p) else wz n nrem (uh p 0 n)))
   by_cases e:Kr r p 0<Kr r p (n - 1)
   ·rw[if_pos (aBJ e)]
    exact⟨rfl,rf _,a1,by show n<=nrem;omega,a3⟩
   ·rw[if_neg (aAW e)]
    have eq:∀k,0<=k->k<n->Kr r p k=Kr r p (n - 1):=λk _ hk=>by
     have g1:=a3 0 k (by omega) hk
     have g2:=a3 k (n - 1) (by omega) (by omega)
     omega
    have kk:=λk=>qD (r:=r) (p:=p) (i:=0) (j:=n) (by omega) eq k
    have sz:(uh p 0 n).size=p.size:=AI _ _ _ _
    obtain⟨b1,b2,b3,b4,b5⟩:=lC (r:=r) (n:=n) (nrem:=nrem) (p:=uh p 0 n) (by omega) (by rw[sz];omega) λi j hij hj=>by
     rw[kk,kk]
     by_cases e1:j=n
     ·subst e1
      by_cases e2:i=j
      ·subst e2;omega
      ·have:=eq i (by omega) (by omega);omega
     ·have g1:=eq i (by omega) (by omega)
      have g2:=eq j (by omega) (by omega)
      omega
    exact⟨b1.trans sz,b2.trans (dW _ _ _),b3,b4,b5⟩
  ·rw[if_neg d]
   refine lC (by omega) hz λi j hij hj=>?_
   have:n=1:=by omega
   subst this
   by_cases e2:i=j
   ·subst e2;omega
   ·rw[show i=0 by omega,show j=1 by omega]
    exact ue lt
theorem nU {p:Array Nat}{k:Nat}(hs:Srt r p k):∀f l q,l<=q->q<=k->q - l<=f->(∀i,i<l->Kr r p i<=Kr r p k)->(∀i,q<=i->i<k->Kr r p k<Kr r p i) ->
  ∀m,m=bC r (pk p k f l q)->m<=k/\(∀i,i<m->Kr r p i<=Kr r p k)/\∀i,m<=i->i<k->Kr r p k<Kr r p i
 |0,l,q,h1,h2,h3,ha,hb,m,hm=>by
  obtain rfl:m=l:=hm
  exact⟨by omega,ha,λi hi hk=>hb i (by omega) hk⟩
 |f+1,l,q,h1,h2,h3,ha,hb,m,hm=>by
  have e:bC r (pk p k (f+1) l q)=bC r (if l≥q then .ret l else .ask (p.getD k 0) (p.getD ((l+q) / 2) 0) λc=>if c=true then pk p k f l ((l+q) / 2) else pk p k f ((l+q) / 2+1) q):=rfl
  rw[e] at hm
  by_cases c:l≥q
  ·rw[if_pos c] at hm
   obtain rfl:m=l:=hm
   exact⟨by omega,ha,λi hi hk=>hb i (by omega) hk⟩
  ·rw[if_neg c] at hm
   have e2:bC r (KasT.ask (p.getD k 0) (p.getD ((l+q) / 2) 0) λc=>if c=true then pk p k f l ((l+q) / 2) else pk p k f ((l+q) / 2+1) q)=bC r (if rlt r (p.getD k 0) (p.getD ((l+q) / 2) 0)=true then pk p k f l ((l+q) / 2) else pk p k f ((l+q) / 2+1) q):=rfl
   rw[e2] at hm
   by_cases d:Kr r p k<Kr r p ((l+q) / 2)
   ·rw[if_pos (aBJ d)] at hm
    exact nU hs f l ((l+q) / 2) (by omega) (by omega) (by omega) ha (λi hi hk=>by have:=hs ((l+q) / 2) i hi hk;omega) m hm
   ·rw[if_neg (aAW d)] at hm
    exact nU hs f ((l+q) / 2+1) q (by omega) h2 (by omega) (λi hi=>by have:=hs i ((l+q) / 2) (by omega) (by omega);omega) hb m hm
theorem aAO:∀f (p:Array Nat) k,k+f<=p.size->Srt r p k->(bC r (BB f p k)).Perm p/\(bC r (BB f p k)).size=p.size/\Srt r (bC r (BB f p k)) (k+f)
 |0,p,k,hz,hs=>⟨rf _,rfl,hs⟩
 |f+1,p,k,hz,hs=>by
  have e:bC r (BB (f+1) p k)=bC r (BB f (bubble p k (k - bC r (pk p k k 0 k))) (k+1)):=dC (r:=r) _
  rw[e]
  obtain⟨a1,a2,a3⟩:=nU hs k 0 k (by omega) (by omega) (by omega) (λi hi=>by omega) (λi h1 h2=>by omega) _ rfl
  generalize bC r (pk p k k 0 k)=l at a1 a2 a3 ⊢
  have sz:(bubble p k (k - l)).size=p.size:=bubble_size _ _ _
  have kb:=λi=>aKl (r:=r) (p:=p) (src:=k) (d:=k - l) (by omega) (by omega) i
  obtain⟨b1,b2,b3⟩:=aAO f (bubble p k (k - l)) (k+1) (by rw[sz];omega) λi j hij hj=>by
   rw[kb,kb]
   have g1:∀i,i<l->Kr r p i<=Kr r p k:=a2
   have g2:∀i,l<=i->i<k->Kr r p k<Kr r p i:=a3
   by_cases i1:i=k - (k - l) <;> by_cases j1:j=k - (k - l)
   ·rw[if_pos i1,if_pos j1];omega
   ·rw[if_pos i1,if_neg j1,if_pos ⟨by omega,by omega⟩]
    exact ue (g2 _ (by omega) (by omega))
   ·rw[if_neg i1,if_pos j1,if_neg (by omega)]
    exact g1 i (by omega)
   ·rw[if_neg i1,if_neg j1]
    by_cases i2:k - (k - l)<i/\i<=k
    ·rw[if_pos i2,if_pos ⟨by omega,by omega⟩]
     exact hs _ _ (by omega) (by omega)
    ·rw[if_neg i2]
     by_cases j2:k - (k - l)<j/\j<=k
     ·rw[if_pos j2]
      exact hs _ _ (by omega) (by omega)
     ·rw[if_neg j2]
      exact hs _ _ hij (by omega)
  exact⟨b1.trans (bubble_perm _ _ _),b2.trans sz,by rw[show k+(f+1)=k+1+f by omega];exact b3⟩
theorem zE {n:Nat}(h1:1<=n):(bC r (lu n)).Perm (ir (aw n))/\(bC r (lu n)).size=n/\Srt r (bC r (lu n)) n:=by
 unfold lu
 rw[dC]
 have hz:(ir (aw n)).size=n:=by simp
 obtain⟨a1,a2,a3,a4,a5⟩:=aCm (r:=r) (nrem:=n) (p:=ir (aw n)) h1 (by omega)
 generalize bC r (A2 n (ir (aw n)))=R at a1 a2 a3 a4 a5 ⊢
 by_cases c:R.1<n
 ·rw[if_pos c]
  obtain⟨b1,b2,b3⟩:=aAO (r:=r) (n - max R.1 1) R.2 (max R.1 1) (by omega) (by rw[show max R.1 1=R.1 by omega];exact a5)
  exact⟨b1.trans a2,by omega,by rw[show max R.1 1+(n - max R.1 1)=n by omega] at b3;exact b3⟩
 ·rw[if_neg c]
  exact⟨a2,by show R.2.size=n;omega,by rw[show R.1=n by omega] at a5;exact a5⟩
end
section
variable {N:Nat}
def Bnd (N:Nat) (p:Array Nat):Prop:=∀k,p.getD k 0<N
theorem Bnd.perm {p q:Array Nat}(hN:0<N)(h:Bnd N p)(e:q.Perm p):Bnd N q:=λk=>by
 rw[dy]
 by_cases c:k<q.size
 ·rw[fq c]
  have hm:q[k]∈p:=e.mem_iff.mp (xt c)
  obtain⟨i,hi,e2⟩:=Array.getElem_of_mem hm
  have:=h i
  rw[dy,fq hi] at this
  show q[k]<N
  rw[<- e2]
  exact this
 ·rw[su (by omega)]
  exact hN
def AskP (N:Nat) {α:Type} (P:α->Prop):KasT α->Prop
 | .ret a=>P a
 | .ask i j k=>i<N/\j<N/\∀b,AskP N P (k b)
theorem AskP.bind {α β:Type}{f:α->KasT β}{P:α->Prop}{Q:β->Prop}(hf:∀a,P a->AskP N Q (f a)):∀t:KasT α,AskP N P t->AskP N Q (t.bind f)
 | .ret a,h=>hf a h
 | .ask i j k,h=>⟨h.1,h.2.1,λb=>AskP.bind hf (k b) (h.2.2 b)⟩
theorem AskP.ite {α:Type}{P:α->Prop}{c:Prop}[Decidable c]{t u:KasT α}(h1:c->AskP N P t)(h2:¬ c->AskP N P u):AskP N P (if c then t else u):=by
 by_cases h:c
 ·rw[if_pos h];exact h1 h
 ·rw[if_neg h];exact h2 h
theorem vI {p:Array Nat}(hb:Bnd N p):∀f n,AskP N (λ_=>True) (yi p f n)
 |0,n=>trivial
 |f+1,n=>⟨hb _,hb _,λb=>AskP.ite (λ_=>trivial) λ_=>vI hb f (n+1)⟩
theorem lX (hN:0<N):∀f (p:Array Nat) n q,Bnd N p->AskP N (λR=>Bnd N R.1) (wx f p n q)
 |0,p,n,q,hb=>hb
 |f+1,p,n,q,hb=>⟨hb _,hb _,λb=>AskP.ite (λ_=>AskP.ite (λ_=>lX hN f _ _ _ (hb.perm hN (dW _ _ _))) λ_=>lX hN f _ _ _ hb) λ_=>⟨hb _,hb _,λd=>AskP.ite (λ_=>hb) λ_=>lX hN f _ _ _ hb⟩⟩
theorem sR (hN:0<N){n nrem:Nat}{p:Array Nat}(hb:Bnd N p):AskP N (λR:Nat×Array Nat=>Bnd N R.2) (BA n nrem p):=by
 unfold BA
 refine AskP.bind (P:=λ_=>True) (λa _=>?_) _ (vI (hb.perm hN (dW _ _ _)) _ _)
 exact hb.perm hN (dW _ _ _)
theorem lL (hN:0<N){n nrem:Nat}{p:Array Nat}(hb:Bnd N p):AskP N (λR:Nat×Array Nat=>Bnd N R.2) (wz n nrem p):=by
 unfold wz
 refine AskP.bind (λR hR=>?_) _ (lX hN _ _ _ _ hb)
 exact AskP.ite (λ_=>sR hN (Bnd.perm hN hR (dW _ _ _))) λ_=>sR hN hR
theorem aBl (hN:0<N){nrem:Nat}{p:Array Nat}(hb:Bnd N p):AskP N (λR:Nat×Array Nat=>Bnd N R.2) (A2 nrem p):=by
 unfold A2
 refine AskP.bind (P:=λ_=>True) (λn _=>?_) _ (vI hb _ _)
 refine AskP.ite (λ_=>?_) λ_=>AskP.ite (λ_=>⟨hb _,hb _,λc=>AskP.ite (λ_=>?_) λ_=>lL hN (hb.perm hN (dW _ _ _))⟩) λ_=>lL hN hb
 ·exact hb
 ·exact hb
theorem mX {p:Array Nat}{k:Nat}(hb:Bnd N p):∀f l q,AskP N (λ_=>True) (pk p k f l q)
 |0,l,q=>trivial
 |f+1,l,q=>AskP.ite (λ_=>trivial) λ_=>⟨hb _,hb _,λc=>AskP.ite (λ_=>mX hb f _ _) λ_=>mX hb f _ _⟩
theorem aDa (hN:0<N):∀f (p:Array Nat) k,Bnd N p->AskP N (λ_=>True) (BB f p k)
 |0,p,k,hb=>trivial
 |f+1,p,k,hb=>AskP.bind (λl _=>aDa hN f _ _ (hb.perm hN (bubble_perm _ _ _))) _ (mX hb _ _ _)
theorem xD (hN:0<N):AskP N (λ_=>True) (lu N):=by
 have hb:Bnd N (ir (aw N)):=λk=>by
  rw[dy]
  by_cases c:k<N
  ·simp[c]
  ·simp[c,hN]
 unfold lu
 refine AskP.bind (λR hR=>?_) _ (aBl hN hb)
 refine AskP.ite (λ_=>aDa hN _ _ _ hR) λ_=>?_
 exact trivial
theorem aBX {r:Nat->Int}{cmp:Nat->Nat->(Bool->Shared->Prop)->Shared->Prop}{s:Shared}(hc:∀i j C,i<N->j<N->C (rlt r i j) s->cmp i j C s){α:Type}{P:α->Prop}{Q:α->Shared->Prop}:∀t:KasT α,AskP N P t->Q (bC r t) s->t.kasWp cmp Q s
 | .ret a,_,h=>h
 | .ask i j k,ha,h=>hc i j _ ha.1 ha.2.1 (aBX hc (k (rlt r i j)) (ha.2.2 _) h)
end
theorem yX:∀{a b:List Int},dA a b=false->dA b a=false->a=b
 |[],[],_,_=>rfl
 |[],_ :: _,h,_=>by cases h
 |_ :: _,[],_,h=>by cases h
 |x :: a,y :: b,h1,h2=>by
  rw[dA] at h1 h2
  by_cases e:x=y
  ·subst e
   rw[if_pos rfl] at h1 h2
   rw[yX h1 h2]
  ·rw[if_neg e] at h1
   rw[if_neg (jh e)] at h2
   have g1:=of_decide_eq_false h1
   have g2:=of_decide_eq_false h2
   omega
def rank (R:List (List Int)) (i:Nat):Int:=((R.countP λq=>dA q (R.getD i [])):Nat)
theorem tO {p q:List Int->Bool}:∀{l:List (List Int)},(∀x∈l,p x=true->q x=true)->(∃x∈l,p x=false/\q x=true)->l.countP p<l.countP q
 |[],_,⟨_,h,_⟩=>by cases h
 |a :: l,h,⟨x,hx,h1,h2⟩=>by
  have mono:l.countP p<=l.countP q:=Aa λx hx=>h x (ar _ hx)
  rw[yv,yv]
  rcases b6.mp hx with e | hx
  ·subst e
   rw[h1,h2]
   simp
   omega
  ·have ih:=tO (λx hx=>h x (ar _ hx)) ⟨x,hx,h1,h2⟩
   have ha:=h a (b7 ..)
   cases e1:p a with
   |false=>simp;split <;> omega
   |true=>rw[ha e1];simp;omega
theorem kJ {R:List (List Int)}{i j:Nat}(hi:i<R.length)(hj:j<R.length):(rank R i<rank R j)↔dA (R.getD i []) (R.getD j [])=true:=by
 have mem:∀k,k<R.length->R.getD k []∈R:=λk hk=>by
  rw[aj,ah hk];exact dz hk
 unfold rank
 constructor
 ·intro h
  cases e:dA (R.getD i []) (R.getD j []) with
  |true=>rfl
  |false=>
   exfalso
   have:R.countP (λq=>dA q (R.getD j []))<=R.countP (λq=>dA q (R.getD i [])):=Aa λx _ hx=>by
    cases e2:dA (R.getD j []) (R.getD i []) with
    |true=>exact fB hx e2
    |false=>rw[yX e e2];exact hx
   omega
 ·intro h
  have:=tO (l:=R) (p:=λq=>dA q (R.getD i [])) (q:=λq=>dA q (R.getD j [])) (λx _ hx=>fB hx h) ⟨_,mem i hi,fO _,h⟩
  omega
def TupsAt (h:Heap) (vs:List Value) (R:List (List Int)):Prop:=vs.length=R.length/\∀(i:Nat) (row:List Int),R[i]?=some row->∃x us,vs[i]?=some (.ref x)/\IsTup h x us.toArray/\IntsAre us row
section
variable {prog:Program}{w:World}{A:Around}{E:Value->Shared->Prop}{s:Shared}
theorem aEJ {fin:Bool}{Q:Bool->Shared->Prop}:∀{us vs:List Value}{ns ms:List Int} (i:Nat),IntsAre us ns->IntsAre vs ms->Q (zF fin (ns.zip ms)) s->KatLex prog w A true fin Q (us.zip vs) i s
 |[],_,_,_,i, .nil,_,h=>by rw[List.zip_nil_left];exact kat_nil (by simpa[zF] using h)
 |_ :: _,[],_,_,i, .cons _ _ _, .nil,h=>by rw[List.zip_nil_right];exact kat_nil (by simpa[zF] using h)
 |_ :: us,_ :: vs,_ :: ns,_ :: ms,i, .cons n t h1, .cons m u h2,h=>by
  rw[rb,zF] at h
  rw[rb]
  refine kat_cons (qr n t m u prog w _ _ ?_)
  by_cases c:n=m
  ·rw[if_pos c] at h
   rw[show(n == m)=true from by rw[c];exact beq_self_eq_true _]
   exact kat_yes (aEJ (i+1) h1 h2 h)
  ·rw[if_neg c] at h
   rw[show(n == m)=false from beq_false_of_ne c]
   refine kat_no ?_
   by_cases z:i=0
   ·subst z
    exact oneLt_int h
   ·rw[show(true && i == 0)=false by simp[z]]
    exact kat_one _ _ (nV h)
theorem aGT {vs:List Value}{R:List (List Int)}(hv:TupsAt s.heap vs R){i j:Nat}{C:Bool->Shared->Prop}(hi:i<R.length)(hj:j<R.length)(h:C (rlt (rank R) i j) s):kas_ask prog w A (AJ true) vs i j C s:=by
 have at':∀k,k<R.length->∃x us,vs.getD k Value.none = .ref x/\IsTup s.heap x us.toArray/\IntsAre us (R.getD k []):=λk hk=>by
  obtain⟨x,us,e1,e2,e3⟩:=hv.2 k R[k] (ah hk)
  refine⟨x,us,by rw[aj,e1];rfl,e2,?_⟩
  rw[aj,ah hk]
  exact e3
 obtain⟨x,us,e1,⟨ox,a1,_,n1,d1⟩,b1⟩:=at' i hi
 obtain⟨y,vs',e2,⟨oy,a2,_,n2,d2⟩,b2⟩:=at' j hj
 show wpAny (model prog w) A (keyLt' (AJ true) (vs.getD i Value.none) (vs.getD j Value.none)) C (λ_ _=>False) s
 rw[e1,e2]
 refine kat_lt a1 d1 a2 d2 ?_
 have hl1:us.length=(R.getD i []).length:=IntsAre.len b1
 have hl2:vs'.length=(R.getD j []).length:=IntsAre.len b2
 have e:rlt (rank R) i j=zF (decide (us.toArray.size<vs'.toArray.size)) ((R.getD i []).zip (R.getD j [])):=by
  rw[av,av,hl1,hl2,wN]
  unfold rlt
  by_cases c:dA (R.getD i []) (R.getD j [])=true
  ·rw[c];exact decide_eq_true ((kJ hi hj).mpr c)
  ·rw[yw _ |>.mp c];exact decide_eq_false λz=>c ((kJ hi hj).mp z)
 exact aEJ 0 b1 b2 (by rw[<- e];exact h)
theorem jD {h:Heap}:∀{vs:List Value}{R:List (List Int)},TupsAt h vs R->(∀q∈R,q≠[])->∃fs,KatTups h vs fs/\fs.length=R.length/\∀v∈fs,∃i t,v = .int i t
 |[],[],_,_=>⟨[],trivial,rfl,λ_ z=>by cases z⟩
 |[],_ :: _,hv,_=>by cases hv.1
 |_ :: _,[],hv,_=>by cases hv.1
 |v :: vs,q :: R,hv,hne=>by
  obtain⟨x,us,e1,⟨o,a1,a2,n,a3⟩,b⟩:=hv.2 0 q rfl
  obtain⟨fs,k,l,f⟩:=jD (vs:=vs) (R:=R) ⟨by simpa using hv.1,λi row hr=>hv.2 (i+1) row hr⟩ λq hq=>hne q (ar _ hq)
  obtain rfl:v = .ref x:=by simpa using e1
  cases b with
  |nil=>exact absurd rfl (hne [] (b7 ..))
  |cons m t r=>
   exact⟨.int m t :: fs,⟨⟨x,o,_,n,rfl,a1,a2,a3,rfl⟩,k⟩,by simp[l],λv hv'=>by
    rcases b6.mp hv' with e | hv'
    ·exact⟨m,t,e⟩
    ·exact f v hv'⟩
theorem TupsAt.keep {h h':Heap}{vs:List Value}{R:List (List Int)}(hv:TupsAt h vs R)(k:∀x us,IsTup h x us->IsTup h' x us):TupsAt h' vs R:=
 ⟨hv.1,λi row hr=>by obtain⟨x,us,e1,e2,e3⟩:=hv.2 i row hr;exact⟨x,us,e1,k _ _ e2,e3⟩⟩
def Put (R:List (List Int)) (p:Array Nat):Prop:=p.Perm (ir (aw R.length))/\∀i j,i<=j->j<R.length->dA (R.getD (p.getD j 0) []) (R.getD (p.getD i 0) [])=false
theorem qY {a:Addr}{vs:List Value}{n:Nat}{R:List (List Int)}{P:Fin->Shared->Prop}(ho:s.heap.get? a=some (jo "list" vs.toArray n))(hv:TupsAt s.heap vs R)(hne:∀q∈R,q≠[])(h64:vs.length<64)
  (h:∀p,Put R p->P (.done (.ret .none)) { s with heap:=Ba s.heap a vs (ir (p.toList.map λi=>vs.getD i Value.none)) }):wpAny (model prog w) A (Builtin.«list.sort» ⟨[.ref a],[]⟩) P E s:=by
 have ha:=br ho
 have hz:vs.length<=ba:=by rw[tj];omega
 obtain⟨e1,ho1⟩:∃e1,(s.heap.update a (fv λ_=>#[])).get? a=some (jo "list" #[] e1):=⟨_,zr ho λ_=>#[]⟩
 rw[list_sort_plain]
 refine af (zq ho rfl (af (u6 ho rfl ?g1 (by rw[av];exact hz) (bc _))))
 case g1=>
 refine af (AK ho1 rfl (af (xg ?g2 (by show vs.length<=_;exact hz))))
 case g2=>
 refine af (qz (ef ?g3) (bc _))
 case g3=>
 obtain⟨h3,eh⟩:∃h3,h3=((s.heap.update a (fv λ_=>(#[]:Array Value))).push (jo "tuple" vs.toArray 0)).push (jo "list" #[] 0):=⟨_,rfl⟩
 show wpAny (model prog w) A _ P E { s with heap:=((s.heap.update a (fv λ_=>#[])).push (jo "tuple" vs.toArray 0)).push (jo "list" #[] 0) }
 rw[<- eh]
 have ho3:h3.get? a=some (jo "list" #[] e1):=by
  rw[eh]
  exact ak _ (ak _ ho1)
 have hv3:TupsAt h3 vs R:=hv.keep λx us ⟨o,b1,b2,b3⟩=>by
  have hx:x≠a:=λe=>by
   subst e
   rw[ho] at b1
   cases b1
   exact absurd (Value.type.inj (show Value.type "list" = Value.type "tuple" from b2)) (by decide)
  refine⟨o,?_,b2,b3⟩
  rw[eh]
  exact ak _ (ak _ (by rw[qe _ _ _ _ hx];exact b1))
 dsimp only
 have fin:∀(p:Array Nat) (st':SortSt),Put R p->p.size=vs.length->arrOf st'=p.map (kas_item (vs.toArray.zip vs.toArray))->A3 st'=none->wpAny (model prog w) A (do
   let touched:=(<- seqEpoch a) != e1
   yj (.ref a) λ_=>(arrOf st').map (·.2)
   if let some e:=A3 st' then rule "list.sort.comparison-raised";throw e
   if touched then rule "list.sort.modified";raiseError "ValueError" "list modified during sort"
   ret .none) P E { s with heap:=h3 }:=λp st' hp hsz har hf=>by
  rw[kat_snds rfl har,hf]
  refine af (AK ho3 rfl (af (u6 ho3 rfl ?g4 (bc _) ?g5)))
  case g5=>
   show(ir _).size<=_
   rw[av,ai,gf];omega
  case g4=>
   simp only[bne_self_eq_false,dq,if_false]
   have:=h p hp
   unfold Ba at this
   rw[<- eh] at this
   exact aq this
 by_cases c:vs.toArray.size<2
 ·rw[if_pos c,if_pos c]
  refine af (aq ?g6)
  case g6=>
  rw[StateT.run_pure]
  refine af (aq ?g7)
  case g7=>
  have e2:(vs.toArray.zip vs.toArray).size=vs.length:=by simp
  refine fin (ir (aw vs.length)) (SortSt.mk' general' (vs.toArray.zip vs.toArray) #[] 7 none) ⟨by rw[hv.1],λi j hij hj=>?_⟩ (by simp) ?_ rfl
  ·have hl:R.length<2:=by rw[<- hv.1];simpa using c
   rw[show i=j by omega]
   exact fO _
  ·have:=kas_range (vs.toArray.zip vs.toArray)
   rw[e2] at this
   exact this.symm
 ·rw[if_neg c,if_neg c]
  have h2:2<=vs.length:=by simpa using c
  obtain⟨fs,k1,k2,k3⟩:=jD hv3 hne
  refine af (kat_kind (s:={ s with heap:=h3 }) (T := .type "int") k1 (by have:=hv.1;omega) (λv hv'=>?g8) (by decide) ?g9)
  case g8=>
   obtain⟨i,t,rfl⟩:=k3 v hv'
   exact Looks.of_pure rfl
  case g9=>
  obtain⟨q1,q2,q3⟩:=zE (r:=rank R) (n:=vs.length) (by omega)
  refine af (fz (kat_run (ks:=vs) (vs:=vs) (s:={ s with heap:=h3 }) (κ:=AJ true) (Q:=λst' s'=>s'={ s with heap:=h3 }/\arrOf st'=(bC (rank R) (lu vs.length)).map (kas_item (vs.toArray.zip vs.toArray))/\A3 st'=none) (G:=λp' s'=>p'=bC (rank R) (lu vs.length)/\s'={ s with heap:=h3 }) rfl h2 h64 (λp' st' s' a1 a2 a3 a4=>⟨a4.2,by rw[<- a4.1];exact a2,a3⟩)
   (aBX (N:=vs.length) (r:=rank R) (λi j C hi hj hC=>aGT (s:={ s with heap:=h3 }) hv3 (by rw[<- hv.1];exact hi) (by rw[<- hv.1];exact hj) hC) _ (xD (by omega)) ⟨rfl,rfl⟩)) ?_ λ_ _ e=>e)
  rintro⟨⟨⟩,st'⟩ s' ⟨rfl,har,hf⟩
  refine fin _ st' ⟨by rw[<- hv.1];exact q1,λi j hij hj=>?_⟩ q2 har hf
  have hle:=q3 i j hij (by rw[hv.1];exact hj)
  have bd:∀k,k<vs.length->(bC (rank R) (lu vs.length)).getD k 0<R.length:=λk hk=>by
   rw[dy,fq (by omega)]
   have:=q1.mem_iff.mp (xt (show k<(bC (rank R) (lu vs.length)).size by omega))
   rw[<- hv.1]
   simpa using this
  have hlt:=kJ (R:=R) (bd j (by rw[hv.1];exact hj)) (bd i (by rw[hv.1];omega))
  cases z:dA (R.getD ((bC (rank R) (lu vs.length)).getD j 0) []) (R.getD ((bC (rank R) (lu vs.length)).getD i 0) []) with
  |false=>rfl
  |true=>
   have:=hlt.mpr z
   unfold Kr at hle
   omega
end
section
variable {prog:Program}{w:World}{A:Around}{E:Value->Shared->Prop}{s:Shared}
theorem aAb {l:Addr}{ob:Obj}{n:Nat}{T:String}{us:List Value}{R:List (List Int)}{Q:Value->Shared->Prop}(e0:s.heap.get? l=some ob)(ec:ob.cls = .type T)(eT:T="list"\/T="tuple")(ed:ob.data = .seq us.toArray n)(hv:TupsAt s.heap us R)(hne:∀q∈R,q≠[])(h64:us.length<64)
  (q:∀p,Put R p->Q (.ref (s.heap.objs.size+1)) { s with heap:=AY s.heap us (ir (p.toList.map λi=>us.getD i Value.none)) }):wpAny (model prog w) A (call (.builtin "sorted") [.ref l]) Q E s:=by
 refine pf Bw Bj Bk (Bl _) ?g1
 case g1=>
 unfold yp
 refine af (m:=checkCount "sorted" 1 1 _) (aq (af (jZ e0 ec eT ed (af (qz ?g2)) (cg (la h64) (by decide)))))
 case g2=>
 obtain⟨h1,eh1⟩:∃h1,h1=(s.heap.push (jo "list" #[] 0)).update s.heap.objs.size (fv (· ++ us.toArray)):=⟨_,rfl⟩
 have z1:h1.objs.size=s.heap.objs.size+1:=by rw[eh1,yq,size_push']
 have old:∀x o,s.heap.get? x=some o->(h1.push (jo "list" us.toArray 0)).get? x=some o:=λx o e=>by
  have hx:=br e
  refine ak _ ?_
  rw[eh1,qe _ _ _ _ (df hx)]
  exact ak _ e
 have e2:(h1.push (jo "list" us.toArray 0)).get? (s.heap.objs.size+1)=some (jo "list" us.toArray 0):=by rw[<- z1];exact bg _ rfl
 have hv2:TupsAt (h1.push (jo "list" us.toArray 0)) us R:=hv.keep λx vs ⟨o,b1,b2,b3⟩=>⟨o,old x o b1,b2,b3⟩
 show wpAny _ _ _ _ _ { s with heap:=((s.heap.push (jo "list" #[] 0)).update s.heap.objs.size (fv (· ++ us.toArray))).push (jo "list" us.toArray 0) }
 rw[<- eh1,z1]
 refine af (ef (fc Av ⟨_,e2,rfl⟩ zu (qY (s:={ s with heap:=h1.push (jo "list" us.toArray 0) }) e2 hv2 hne h64 λp hp=>⟨_,rfl,aq ⟨_,rfl,?g3⟩⟩) (Aw _)))
 case g3=>
  have:=q p hp
  unfold AY at this
  rw[<- eh1] at this
  exact this
end
theorem yO {R:List (List Int)}{p:Array Nat}(h:Put R p):(p.toList.map λi=>R.getD i []).Perm R/\(p.toList.map λi=>R.getD i []).Pairwise (λa b=>dA b a=false):=by
 have pl:p.toList.Perm (aw R.length):=by simpa using o7.mp h.1
 have e:(aw R.length).map (λi=>R.getD i [])=R:=by
  apply ui
  ·simp
  ·intro i h1 h2
   rw[jq,w8,aj,ah h2];rfl
 have hl:p.size=R.length:=by rw[<- gf,pl.length_eq,cz]
 refine⟨by have:=pl.map λi=>R.getD i [];rw[e] at this;exact this,?_⟩
 rw[md]
 intro i j hi hj hij
 rw[ai,gf] at hi hj
 have:=h.2 i j (by omega) (by omega)
 rw[dy,fq hj,dy,fq hi] at this
 rw[jq,jq,Aq,Aq]
 exact this
def aBA (K:aa):List V->Hp->VK->Prop:=λvs H Q=>∃(a:Addr) (xs:List V) (R:List (List Int)),vs=[.ref a]/\Sq K H a xs/\Rows K H xs R/\(∀q∈R,q≠[])/\R.length<64 /\
 ∀(ys:List V) (R':List (List Int)),R'.Perm R->R'.Pairwise (λa b=>dA b a=false)->ys.Perm xs->Rows K H ys R'->∀l,H l=none->Q (.ref l) (upd H l (.lst ys))
theorem zV {X:Cx}:CallR X (.builtin "sorted") (aBA X.K):=by
 intro pins s σ H vs us Q I r ⟨a,xs,R,e,hq,hR,hne,h64,q⟩
 subst e
 obtain⟨u,rfl,ru⟩:=nQ r
 obtain rfl:u=Value.ref a:=ru
 have go:∀(its:List Value) (ob:Obj) (n:Nat) (T:String),Vals xs its->s.heap.get? a=some ob->ob.cls = .type T->(T="list"\/T="tuple")->ob.data = .seq its.toArray n->wpAny (model X.prog X.w) X.A (call (.builtin "sorted") [.ref a]) (EP X pins σ Q) X.xe s:=by
  intro its ob n T rv e0 ec eT ed
  have hl:=rv.length
  have hv:TupsAt s.heap its R:=⟨by rw[<- hl];exact hR.1,λi row hr=>by
   obtain⟨b,e1,e2⟩:=hR.2 i row hr
   obtain⟨u,eu,rU⟩:=rv.get e1
   obtain rfl:u=Value.ref b:=rU
   obtain⟨vs,rvs,pl,_⟩:=I.tuple e2
   exact⟨b,vs,eu,pl,dE rvs⟩⟩
  refine aAb e0 ec eT ed hv hne (by rw[<- hl,hR.1];exact h64) λp hp=>?_
  obtain⟨f1,f2⟩:=yO hp
  have pl:p.toList.Perm (aw R.length):=by simpa using o7.mp hp.1
  have hb:∀i∈p.toList,i<R.length:=λi hi=>cf.mp (pl.mem_iff.mp hi)
  obtain⟨c,he⟩:=Bm s.heap its (ir (p.toList.map λi=>its.getD i Value.none))
  have ex:(aw R.length).map (λi=>xs.getD i V.non)=xs:=by
   apply ui
   ·simp[hR.1]
   ·intro i h1 h2
    rw[jq,w8,aj,ah h2];rfl
  have py:(p.toList.map λi=>xs.getD i V.non).Perm xs:=by have:=pl.map λi=>xs.getD i V.non;rw[ex] at this;exact this
  refine⟨.ref (s.heap.objs.size+1),_,I.laid (t':=s.toks) (o := .lst (p.toList.map λi=>xs.getD i V.non)) (λb ob q=>AZ q) (om _) ?_,rfl,q _ _ f1 f2 py ?_ _ (I.hok.fresh (om _))⟩
  ·refine⟨?_,p.toList.map λi=>its.getD i Value.none,c,?_,by simpa using he⟩
   ·rw[ai,pl.length_eq,cz]
    exact cg (la h64) (by decide)
   ·have all:∀l:List Nat,(∀i∈l,i<R.length)->Vals (l.map λi=>xs.getD i V.non) (l.map λi=>its.getD i Value.none):=by
     intro l
     induction l with
     |nil=>intro _;exact .nil
     |cons i l ih=>
      intro h
      have hi:i<xs.length:=by rw[hR.1];exact h i (b7 ..)
      obtain⟨u,eu,rU⟩:=rv.get (ah hi)
      refine .cons ?_ (ih λj hj=>h j (ar _ hj))
      show RelV (xs.getD i V.non) (its.getD i Value.none)
      rw[aj,aj,eu,ah hi]
      exact rU
    exact all _ hb
  ·refine⟨by rw[ai,ai],λi row hr=>?_⟩
   rw[az] at hr
   cases ep:p.toList[i]? with
   |none=>rw[ep] at hr;cases hr
   |some k=>
    rw[ep] at hr
    obtain rfl:R.getD k []=row:=da hr
    have hk:=hb k (cb ep)
    obtain⟨b,e1,e2⟩:=hR.2 k R[k] (ah hk)
    refine⟨b,?_,?_⟩
    ·rw[az,ep]
     show some (xs.getD k V.non)=_
     rw[aj,e1];rfl
    ·rw[aj,ah hk];exact e2
 rcases hq with hq | hq
 ·obtain⟨its,rv,pl,hz⟩:=I.list hq
  obtain⟨o,ho,hc,n,hd⟩:=pl.isList
  exact go its o n "list" rv ho hc (.inl rfl) hd
 ·obtain⟨its,rv,pl,hz⟩:=I.tuple hq
  obtain⟨o,ho,hc,n,hd⟩:=pl
  exact go its o n "tuple" rv ho hc (.inr rfl) hd
theorem vZ {X:Cx}{K:aa}(hK:X.K=K):CallR X (.builtin "sorted") (aBA K):=by subst hK;exact zV
def aFb (K:aa):List V->Hp->VK->Prop:=λvs H Q=>kP K vs H Q\/aBA K vs H Q
theorem wP {X:Cx}{K:aa}(hK:X.K=K):CallR X (.builtin "sorted") (aFb K):=λpins s σ H xs us Q I r h=>h.elim (eN hK pins s σ H xs us Q I r) (vZ hK pins s σ H xs us Q I r)
end L2
namespace L2
open PySem PyProof.Rows
theorem aDR (r q:List Int):eqD (.tup (r.map Dt.int)) (.tup (q.map Dt.int))=decide (r=q):=by
 by_cases h:r=q
 ·subst h;rw[cL,decide_eq_true rfl]
 ·rw[decide_eq_false h]
  cases e:eqD (.tup (r.map Dt.int)) (.tup (q.map Dt.int)) with
  |false=>rfl
  |true=>rw[eqD] at e;exact absurd (eQ e) h
def aKW (K:aa) (neg:Bool):R2:=λx y H Q=>∃(b p:Addr) (r:List Int) (xs:List V) (R:List (List Int)),x = .ref b/\y = .ref p/\SqT K H b (r.map V.int)/\Sq K H p xs/\Rows K H xs R/\Q (.bl (if neg then !decide (r∈R) else decide (r∈R))) H
section
variable {X:Cx}
theorem wX {pins:List (Addr×Obj)}{σ:St}{H:Hp}{s:Shared}{b:Addr}{r:List Int}{xs:List V}{R:List (List Int)}{its:List Value}(hu:X.A.units+103<cLine)(I:Inv X pins σ H s)(hb:SqT X.K H b (r.map V.int))(hR:Rows X.K H xs R)(rv:Vals xs its) :
  ∃e:Value->Bool,(∀u,u∈its->ff X.A.in1 s u (.ref b) (e u))/\its.any e=decide (r∈R):=by
 classical
 have hl:=rv.length
 have row_of:∀i (hi:i<its.length),∃c,∃hR':i<R.length,its[i] = .ref c/\SqT X.K H c (R[i].map V.int):=λi hi=>by
  have hR':i<R.length:=by rw[<- hR.1,hl];exact hi
  obtain⟨c,e1,e2⟩:=hR.2 i R[i] (ah hR')
  obtain⟨u,eu,rU⟩:=rv.get e1
  rw[ah hi] at eu
  cases eu
  exact⟨c,hR',rU,e2⟩
 refine⟨λu=>decide (∃c,u = .ref c/\SqT X.K H c (r.map V.int)),λu hu'=>?_,?_⟩
 ·obtain⟨i,hi,rfl⟩:=iq hu'
  obtain⟨c,hR',e1,e2⟩:=row_of i hi
  rw[e1]
  have sh:∀(q:List Int) (a:Addr),SqT X.K H a (q.map V.int)->Sh X.K H (.tup (q.map Dt.int)) (.ref a):=λq a h=>⟨a,_,rfl,h,ShL.ints q⟩
  have g:=(I.eq_sh 100 X.A.in1 (.tup (R[i].map Dt.int)) (.tup (r.map Dt.int)) (.ref c) (.ref b) (.ref c) (.ref b) (by rw[dep,rN];decide) (by show X.A.units+1+100<cLine;omega) rfl rfl (sh _ _ e2) (sh _ _ hb)).2
  rw[aDR] at g
  have ee:decide (R[i]=r)=decide (∃c',Value.ref c = .ref c'/\SqT X.K H c' (r.map V.int)):=by
   by_cases h:R[i]=r
   ·rw[decide_eq_true h,decide_eq_true ⟨c,rfl,h ▸ e2⟩]
   ·rw[decide_eq_false h,decide_eq_false]
    rintro⟨c',e,h'⟩
    cases e
    have:=I.tuple_inj e2 h'
    exact h ((og λa b z=>V.int.inj z).mp this)
  show ff X.A.in1 s (Value.ref c) (Value.ref b) (decide (∃c',Value.ref c = .ref c'/\SqT X.K H c' (r.map V.int)))
  rw[<- ee]
  exact g
 ·by_cases h:r∈R
  ·rw[decide_eq_true h]
   obtain⟨i,hi,e⟩:=iq h
   have hi':i<its.length:=by rw[<- hl,hR.1];exact hi
   obtain⟨c,_,e1,e2⟩:=row_of i hi'
   rw[ny]
   exact⟨its[i],dz _,by rw[e1];exact decide_eq_true ⟨c,rfl,e ▸ e2⟩⟩
  ·rw[decide_eq_false h,t8]
   intro u hu'
   obtain⟨i,hi,rfl⟩:=iq hu'
   obtain⟨c,hR',e1,e2⟩:=row_of i hi
   rw[decide_eq_true_iff]
   rintro⟨c',e,h'⟩
   rw[e1] at e
   cases e
   have:=I.tuple_inj e2 h'
   exact h ((og λa b z=>V.int.inj z).mp this ▸ dz hR')
theorem aIU (hu:X.A.units+103<cLine):OpR X (i8 .In) (aKW X.K false):=by
 intro pins s σ H x y v u Q I rx ry ⟨b,p,r,xs,R,e1,e2,hb,hq,hR,q⟩
 subst e1 e2
 cases rx
 cases ry
 rcases hq with hq | hq
 ·obtain⟨its,rv,pl,_⟩:=I.list hq
  obtain⟨e,h1,h2⟩:=wX hu I hb hR rv
  refine zj e pl.isList (λw hw=>h1 w (by simpa using hw)) ⟨.bl _,H,I,rfl,?_⟩
  rw[show its.toArray.any e=its.any e by simp,h2]
  exact q
 ·obtain⟨its,rv,pl,_⟩:=I.tuple hq
  obtain⟨e,h1,h2⟩:=wX hu I hb hR rv
  refine yo e pl (λw hw=>h1 w (by simpa using hw)) ⟨.bl _,H,I,rfl,?_⟩
  rw[show its.toArray.any e=its.any e by simp,h2]
  exact q
end
def aJt (K:aa) (neg:Bool):R2:=λx y H Q=>rIn K neg x y H Q\/aKW K neg x y H Q
theorem aBG {X:Cx}{K:aa}{k:Nat}(hK:X.K=K)(hr:Room k X.A):OpR X (i8 .In) (aJt K false):=by
 subst hK
 exact OpR.or aBL (aIU (by have:=hr.un;omega))
theorem aBv (r q:List Int):eqD (.lst (r.map Dt.int)) (.lst (q.map Dt.int))=decide (r=q):=by
 by_cases h:r=q
 ·subst h;rw[cL,decide_eq_true rfl]
 ·rw[decide_eq_false h]
  cases e:eqD (.lst (r.map Dt.int)) (.lst (q.map Dt.int)) with
  |false=>rfl
  |true=>rw[eqD] at e;exact absurd (eQ e) h
def aIn (K:aa) (H:Hp) (xs:List V) (T:List (List Int)):Prop:=xs.length=T.length/\∀(i:Nat) (row:List Int),T[i]?=some row->∃b,xs[i]?=some (.ref b)/\SqL K H b (row.map V.int)
def aKX (K:aa) (neg:Bool):R2:=λx y H Q=>∃(b p:Addr) (r:List Int) (xs:List V) (R:List (List Int)),x = .ref b/\y = .ref p/\SqL K H b (r.map V.int)/\Sq K H p xs/\aIn K H xs R/\Q (.bl (if neg then !decide (r∈R) else decide (r∈R))) H
section
variable {X:Cx}
theorem sO {pins:List (Addr×Obj)}{σ:St}{H:Hp}{s:Shared}{b:Addr}{r:List Int}{xs:List V}{R:List (List Int)}{its:List Value}(hu:X.A.units+103<cLine)(I:Inv X pins σ H s)(hb:SqL X.K H b (r.map V.int))(hR:aIn X.K H xs R)(rv:Vals xs its) :
  ∃e:Value->Bool,(∀u,u∈its->ff X.A.in1 s u (.ref b) (e u))/\its.any e=decide (r∈R):=by
 classical
 have hl:=rv.length
 have row_of:∀i (hi:i<its.length),∃c,∃hR':i<R.length,its[i] = .ref c/\SqL X.K H c (R[i].map V.int):=λi hi=>by
  have hR':i<R.length:=by rw[<- hR.1,hl];exact hi
  obtain⟨c,e1,e2⟩:=hR.2 i R[i] (ah hR')
  obtain⟨u,eu,rU⟩:=rv.get e1
  rw[ah hi] at eu
  cases eu
  exact⟨c,hR',rU,e2⟩
 refine⟨λu=>decide (∃c,u = .ref c/\SqL X.K H c (r.map V.int)),λu hu'=>?_,?_⟩
 ·obtain⟨i,hi,rfl⟩:=iq hu'
  obtain⟨c,hR',e1,e2⟩:=row_of i hi
  rw[e1]
  have sh:∀(q:List Int) (a:Addr),SqL X.K H a (q.map V.int)->Sh X.K H (.lst (q.map Dt.int)) (.ref a):=λq a h=>⟨a,_,rfl,h,ShL.ints q⟩
  have g:=(I.eq_sh 100 X.A.in1 (.lst (R[i].map Dt.int)) (.lst (r.map Dt.int)) (.ref c) (.ref b) (.ref c) (.ref b) (by rw[dep,rN];decide) (by show X.A.units+1+100<cLine;omega) rfl rfl (sh _ _ e2) (sh _ _ hb)).2
  rw[aBv] at g
  have ee:decide (R[i]=r)=decide (∃c',Value.ref c = .ref c'/\SqL X.K H c' (r.map V.int)):=by
   by_cases h:R[i]=r
   ·rw[decide_eq_true h,decide_eq_true ⟨c,rfl,h ▸ e2⟩]
   ·rw[decide_eq_false h,decide_eq_false]
    rintro⟨c',e,h'⟩
    cases e
    have:=I.list_inj e2 h'
    exact h ((og λa b z=>V.int.inj z).mp this)
  show ff X.A.in1 s (Value.ref c) (Value.ref b) (decide (∃c',Value.ref c = .ref c'/\SqL X.K H c' (r.map V.int)))
  rw[<- ee]
  exact g
 ·by_cases h:r∈R
  ·rw[decide_eq_true h]
   obtain⟨i,hi,e⟩:=iq h
   have hi':i<its.length:=by rw[<- hl,hR.1];exact hi
   obtain⟨c,_,e1,e2⟩:=row_of i hi'
   rw[ny]
   exact⟨its[i],dz _,by rw[e1];exact decide_eq_true ⟨c,rfl,e ▸ e2⟩⟩
  ·rw[decide_eq_false h,t8]
   intro u hu'
   obtain⟨i,hi,rfl⟩:=iq hu'
   obtain⟨c,hR',e1,e2⟩:=row_of i hi
   rw[decide_eq_true_iff]
   rintro⟨c',e,h'⟩
   rw[e1] at e
   cases e
   have:=I.list_inj e2 h'
   exact h ((og λa b z=>V.int.inj z).mp this ▸ dz hR')
theorem aIG (hu:X.A.units+103<cLine):OpR X (i8 .In) (aKX X.K false):=by
 intro pins s σ H x y v u Q I rx ry ⟨b,p,r,xs,R,e1,e2,hb,hq,hR,q⟩
 subst e1 e2
 cases rx
 cases ry
 rcases hq with hq | hq
 ·obtain⟨its,rv,pl,_⟩:=I.list hq
  obtain⟨e,h1,h2⟩:=sO hu I hb hR rv
  refine zj e pl.isList (λw hw=>h1 w (by simpa using hw)) ⟨.bl _,H,I,rfl,?_⟩
  rw[show its.toArray.any e=its.any e by simp,h2]
  exact q
 ·obtain⟨its,rv,pl,_⟩:=I.tuple hq
  obtain⟨e,h1,h2⟩:=sO hu I hb hR rv
  refine yo e pl (λw hw=>h1 w (by simpa using hw)) ⟨.bl _,H,I,rfl,?_⟩
  rw[show its.toArray.any e=its.any e by simp,h2]
  exact q
end
def aJf (K:aa) (neg:Bool):R2:=λx y H Q=>aJt K neg x y H Q\/aKX K neg x y H Q
theorem aGk {X:Cx}{K:aa}{k:Nat}(hK:X.K=K)(hr:Room k X.A):OpR X (i8 .In) (aJf K false):=OpR.or (aBG hK hr) (by subst hK;exact aIG (by have:=hr.un;omega))
end L2
namespace L2
open PySem PySem.Spec PyProof.Rows
section
variable {prog:Program}{w:World}{A:Around}{E:Value->Shared->Prop}{s:Shared}{d:Addr}{o:Obj}{es:Array DictEntry}{ep:Nat}
end
section
variable {prog:Program}{w:World}{K:Type}[DecidableEq K]{knd:HeapKind prog w K}{A:Around}{E:Value->Shared->Prop}{s:Shared}{d a:Addr}{xs:List (K×Addr×Value)}{k:K}
end
section
variable {X:Cx}{pins:List (Addr×Obj)}{σ:St}{H:Hp}{s:Shared}{A:Around}{E:Value->Shared->Prop}{a b:Addr}{kvs:List (List Key×V)}{k:List Key}
end
section
variable {X:Cx}{o e f:Expr}{td ty tx:TE}{apos cpos:Pos}
end
section
variable {prog:Program}{w:World}{A:Around}{E:Value->Shared->Prop}{s:Shared}{d:Addr}{o:Obj}{es:Array DictEntry}{ep:Nat}
end
section
variable {prog:Program}{w:World}{A:Around}{E:Value->Shared->Prop}{s:Shared}
end
section
variable {X:Cx}{o i value:Expr}{pos pos':Pos}{td ty tv:TE}
end
section
variable {X:Cx}
def CMulG (i j:Int):Prop:=i.natAbs<2 ^ 8000/\j.natAbs<2 ^ 8000
theorem aCQ {k:Int}(h:k.natAbs<2 ^ 8000):qf k<=8000:=by
 unfold qf
 split
 ·exact bc _
 ·rename_i c
  have hk:k.natAbs≠0:=λe=>c (by simp[Int.natAbs_eq_zero.mp e])
  have:=(Nat.log2_lt hk).mpr h
  omega
theorem CMulG.ok {i j:Int}(h:CMulG i j):IntMulOk i j:=by
 unfold IntMulOk Builtin.Int.intTooBig
 have h1:=aCQ h.1
 have h2:=aCQ h.2
 have:¬ (((qf i+qf j:Nat):Int) > (bitsLine:Int)):=by
  have:(16000:Int)<=(bitsLine:Int):=by decide
  omega
 intro e
 rw[dv] at e
 have:=of_decide_eq_true e.2
 omega
def aAq:R2:=λx y H Q=>match x,y with
 | .int i, .int j=>(CMul i j\/CMulG i j)/\Q (.int (i*j)) H
 | .ref a, .int k=>aJK (.ref a) (.int k) H Q
 |_,_=>False
theorem qF:OpR X (km .Mult) aAq:=by
 intro pins s σ H x y v u Q I rx ry h
 unfold aAq at h
 split at h
 ·rcases h with⟨h | h,q⟩
  ·exact aEq (X:=X) pins s σ H _ _ v u Q I rx ry ⟨_,_,rfl,rfl,h,q⟩
  ·exact(opI λ_ _ _ _ _ _ _ hc q=>mul_int q hc.ok:OpR X (km .Mult) (rI CMulG λi j => .int (i*j))) pins s σ H _ _ v u Q I rx ry ⟨_,_,rfl,rfl,h,q⟩
 ·exact aEK (X:=X) pins s σ H _ _ v u Q I rx ry h
 ·exact h.elim
def aIL (i j:Int):Prop:=0<j/\j.natAbs<2 ^ 8000
abbrev aCV:R2:=rI aIL λi j => .int (i / j)
theorem mF:OpR X (km .FloorDiv) aCV:=opI λi j _ _ _ _ _ hc q=>by
 have h1:(0:Int)<j:=hc.1
 refine floordiv_int (by omega) (by rw[v8 i (by omega)];exact q) (.inl (PyProof.noPylong_of_log2 ?_))
 have:=(Nat.log2_lt (show j.natAbs≠0 by omega)).mpr hc.2
 omega
end
def aGV:Nat->List (List Nat)
 |0=>[[]]
 |n+1=>aGV n++(aGV n).map (· ++ [n])
def aJY:List (List Nat):=aGV 8
def SmE (es:Array (Int×Value)) (ks:List Nat):Prop:=ks∈aJY/\es.toList.map (·.1)=ks.map Int.ofNat/\∀e∈es.toList,∃tk,e.2 = .int e.1 tk
theorem SmE.size {es:Array (Int×Value)}{ks:List Nat}(h:SmE es ks):es.size=ks.length:=by
 have:=congrArg AB h.2.1
 simpa using this
section
variable {prog:Program}{w:World}{A:Around}{E:Value->Shared->Prop}{s:Shared}
end
section
variable {prog:Program}{w:World}{A:Around}{R:Bs->Shared->Prop}{I:Addr}{fp wr:List Addr}{G:Array GenState->Array GenState->Prop}{n:Nat}{P:Nat->Value->Prop}{St:Nat->Shared->Prop}
end
section
variable {prog:Program}{w:World}{A:Around}{E:Value->Shared->Prop}{s:Shared}
end
def SIt (it a:Addr) (slot i n ep:Nat) (h:Heap):Prop:=∃o,h.get? it=some o/\o.cls = .type "set_iterator"/\o.data = .fields #[ze slot,ze i, .ref a,ze n,ze ep]
section
variable {prog:Program}{w:World}{A:Around}{E:Value->Shared->Prop}{s:Shared}{a:Addr}{es:Array (Int×Value)}{ep:Nat}{ks:List Nat}
theorem SIt.typeIs {it:Addr}{slot i n:Nat}(x:SIt it a slot i n ep s.heap):s.TypeIs (.ref it) "set_iterator":=let⟨o,h1,h2,_⟩:=x;⟨o,h1,h2⟩
end
end L2
namespace L2
open PySem PySem.Spec PySem.W PyProof.Rows
section
variable {prog:Program}{w:World}{A:Around}{E:Value->Shared->Prop}{s:Shared}{a:Addr}{es:Array (Int×Value)}{ep:Nat}{ks:List Nat}
theorem SIt.at {h h':Heap}{it:Addr}{sl i n:Nat}(x:SIt it a sl i n ep h)(e:∀o,h.get? it=some o->h'.get? it=some o):SIt it a sl i n ep h':=let⟨o,ho,r⟩:=x;⟨o,e _ ho,r⟩
end
section
variable {X:Cx}
end
end L2
namespace L2
open PySem PySem.Spec PyProof.Rows
theorem DP.at {X:Cx}{pins:List (Addr×Obj)}{σ:St}{H:Hp}{s:Shared}{a:Addr}{xs:PEs}{ep:Nat}(I:Inv X pins σ H s)(d:DP H a xs ep) :
  s.TypeIs (.ref a) "dict"/\(∀b,Value.ref a = .ref b->∃ob,s.heap.get? b=some ob/\ob.dict=none)/\(a == jt)=false:=by
 obtain⟨_,hd,ys,_,dd⟩:=d.of I.hok
 refine⟨dd.typeIs,λb q=>?_,hd⟩
 cases q
 obtain⟨ob,_,_,h1,h2,_⟩:=dd
 exact⟨ob,h1,h2.2.1⟩
section
variable {X:Cx}{o e f:Expr}{apos cpos:Pos}{td ty tx:TE}
end
section
variable {X:Cx}
def aIV:List V->Hp->VK->Prop:=λxs H Q=>∃a kvs,xs=[V.ref a]/\H a=some (.dK kvs)/\Q (.int kvs.length) H
end
open PySem.SeqAt PySem.MeetsSeq3
section
variable {A:Around}{s:Shared}{l b:Addr}{us vs:List Value}{R S:List (List Int)}
end
open PySem.SeqAt PySem.MeetsSeq
open AutoSeq1 (wpAny_loadPart')
section
variable {X:Cx}
end
end L2
namespace L2
open PySem
section
variable {X:Cx}
end
end L2
namespace L2
open PySem PySem.Spec PyProof.Rows
section
variable {X:Cx}
end
section
variable {X:Cx}
end
end L2
namespace L2
open PySem PySem.W PyProof.Rows
open PySem.SeqAt
section
variable {prog:Program}{w:World}{A:Around}{E:Value->Shared->Prop}{s:Shared}
theorem rY {a:Addr}{vs:List Value}{n:Nat}{R:List (List Int)}{P:Fin->Shared->Prop}(ho:s.heap.get? a=some (jo "list" vs.toArray n))(hlen:vs.length=R.length){PP:Heap->Prop}(hP:PP s.heap)(kp:∀h h':Heap,PP h->(∀x us,IsTup h x us->IsTup h' x us)->PP h')(fst:∀h,PP h->∃fs,KatTups h vs fs/\fs.length=R.length/\∀v∈fs,∃i t,v = .int i t)(ask:∀(s:Shared) (i j:Nat) (C:Bool->Shared->Prop),PP s.heap->i<R.length->j<R.length->C (rlt (rank R) i j) s->kas_ask prog w A (AJ true) vs i j C s)(h64:vs.length<64)
  (h:∀p,Put R p->P (.done (.ret .none)) { s with heap:=Ba s.heap a vs (ir (p.toList.map λi=>vs.getD i Value.none)) }):wpAny (model prog w) A (Builtin.«list.sort» ⟨[.ref a],[]⟩) P E s:=by
 have ha:=br ho
 have hz:vs.length<=ba:=by rw[tj];omega
 obtain⟨e1,ho1⟩:∃e1,(s.heap.update a (fv λ_=>#[])).get? a=some (jo "list" #[] e1):=⟨_,zr ho λ_=>#[]⟩
 rw[list_sort_plain]
 refine af (zq ho rfl (af (u6 ho rfl ?g1 (by rw[av];exact hz) (bc _))))
 case g1=>
 refine af (AK ho1 rfl (af (xg ?g2 (by show vs.length<=_;exact hz))))
 case g2=>
 refine af (qz (ef ?g3) (bc _))
 case g3=>
 obtain⟨h3,eh⟩:∃h3,h3=((s.heap.update a (fv λ_=>(#[]:Array Value))).push (jo "tuple" vs.toArray 0)).push (jo "list" #[] 0):=⟨_,rfl⟩
 show wpAny (model prog w) A _ P E { s with heap:=((s.heap.update a (fv λ_=>#[])).push (jo "tuple" vs.toArray 0)).push (jo "list" #[] 0) }
 rw[<- eh]
 have ho3:h3.get? a=some (jo "list" #[] e1):=by
  rw[eh]
  exact ak _ (ak _ ho1)
 have hv3:PP h3:=kp _ _ hP λx us ⟨o,b1,b2,b3⟩=>by
  have hx:x≠a:=λe=>by
   subst e
   rw[ho] at b1
   cases b1
   exact absurd (Value.type.inj (show Value.type "list" = Value.type "tuple" from b2)) (by decide)
  refine⟨o,?_,b2,b3⟩
  rw[eh]
  exact ak _ (ak _ (by rw[qe _ _ _ _ hx];exact b1))
 dsimp only
 have fin:∀(p:Array Nat) (st':SortSt),Put R p->p.size=vs.length->arrOf st'=p.map (kas_item (vs.toArray.zip vs.toArray))->A3 st'=none->wpAny (model prog w) A (do
   let touched:=(<- seqEpoch a) != e1
   yj (.ref a) λ_=>(arrOf st').map (·.2)
   if let some e:=A3 st' then rule "list.sort.comparison-raised";throw e
   if touched then rule "list.sort.modified";raiseError "ValueError" "list modified during sort"
   ret .none) P E { s with heap:=h3 }:=λp st' hp hsz har hf=>by
  rw[kat_snds rfl har,hf]
  refine af (AK ho3 rfl (af (u6 ho3 rfl ?g4 (bc _) ?g5)))
  case g5=>
   show(ir _).size<=_
   rw[av,ai,gf];omega
  case g4=>
   simp only[bne_self_eq_false,dq,if_false]
   have:=h p hp
   unfold Ba at this
   rw[<- eh] at this
   exact aq this
 by_cases c:vs.toArray.size<2
 ·rw[if_pos c,if_pos c]
  refine af (aq ?g6)
  case g6=>
  rw[StateT.run_pure]
  refine af (aq ?g7)
  case g7=>
  have e2:(vs.toArray.zip vs.toArray).size=vs.length:=by simp
  refine fin (ir (aw vs.length)) (SortSt.mk' general' (vs.toArray.zip vs.toArray) #[] 7 none) ⟨by rw[hlen],λi j hij hj=>?_⟩ (by simp) ?_ rfl
  ·have hl:R.length<2:=by rw[<- hlen];simpa using c
   rw[show i=j by omega]
   exact fO _
  ·have:=kas_range (vs.toArray.zip vs.toArray)
   rw[e2] at this
   exact this.symm
 ·rw[if_neg c,if_neg c]
  have h2:2<=vs.length:=by simpa using c
  obtain⟨fs,k1,k2,k3⟩:=fst _ hv3
  refine af (kat_kind (s:={ s with heap:=h3 }) (T := .type "int") k1 (by have:=hlen;omega) (λv hv'=>?g8) (by decide) ?g9)
  case g8=>
   obtain⟨i,t,rfl⟩:=k3 v hv'
   exact Looks.of_pure rfl
  case g9=>
  obtain⟨q1,q2,q3⟩:=zE (r:=rank R) (n:=vs.length) (by omega)
  refine af (fz (kat_run (ks:=vs) (vs:=vs) (s:={ s with heap:=h3 }) (κ:=AJ true) (Q:=λst' s'=>s'={ s with heap:=h3 }/\arrOf st'=(bC (rank R) (lu vs.length)).map (kas_item (vs.toArray.zip vs.toArray))/\A3 st'=none) (G:=λp' s'=>p'=bC (rank R) (lu vs.length)/\s'={ s with heap:=h3 }) rfl h2 h64 (λp' st' s' a1 a2 a3 a4=>⟨a4.2,by rw[<- a4.1];exact a2,a3⟩)
   (aBX (N:=vs.length) (r:=rank R) (λi j C hi hj hC=>ask { s with heap:=h3 } i j C hv3 (by rw[<- hlen];exact hi) (by rw[<- hlen];exact hj) hC) _ (xD (by omega)) ⟨rfl,rfl⟩)) ?_ λ_ _ e=>e)
  rintro⟨⟨⟩,st'⟩ s' ⟨rfl,har,hf⟩
  refine fin _ st' ⟨by rw[<- hlen];exact q1,λi j hij hj=>?_⟩ q2 har hf
  have hle:=q3 i j hij (by rw[hlen];exact hj)
  have bd:∀k,k<vs.length->(bC (rank R) (lu vs.length)).getD k 0<R.length:=λk hk=>by
   rw[dy,fq (by omega)]
   have:=q1.mem_iff.mp (xt (show k<(bC (rank R) (lu vs.length)).size by omega))
   rw[<- hlen]
   simpa using this
  have hlt:=kJ (R:=R) (bd j (by rw[hlen];exact hj)) (bd i (by rw[hlen];omega))
  cases z:dA (R.getD ((bC (rank R) (lu vs.length)).getD j 0) []) (R.getD ((bC (rank R) (lu vs.length)).getD i 0) []) with
  |false=>rfl
  |true=>
   have:=hlt.mpr z
   unfold Kr at hle
   omega
theorem zY {l:Addr}{ob:Obj}{n:Nat}{T:String}{us:List Value}{R:List (List Int)}{Q:Value->Shared->Prop}(e0:s.heap.get? l=some ob)(ec:ob.cls = .type T)(eT:T="list"\/T="tuple")(ed:ob.data = .seq us.toArray n)(hlen:us.length=R.length){PP:Heap->Prop}(hP:PP s.heap)(kp:∀h h':Heap,PP h->(∀x us,IsTup h x us->IsTup h' x us)->PP h')(fst:∀h,PP h->∃fs,KatTups h us fs/\fs.length=R.length/\∀v∈fs,∃i t,v = .int i t)(ask:∀(s:Shared) (i j:Nat) (C:Bool->Shared->Prop),PP s.heap->i<R.length->j<R.length->C (rlt (rank R) i j) s->kas_ask prog w A.in1.in1 (AJ true) us i j C s)(h64:us.length<64)
  (q:∀p,Put R p->Q (.ref (s.heap.objs.size+1)) { s with heap:=AY s.heap us (ir (p.toList.map λi=>us.getD i Value.none)) }):wpAny (model prog w) A (call (.builtin "sorted") [.ref l]) Q E s:=by
 refine pf Bw Bj Bk (Bl _) ?g1
 case g1=>
 unfold yp
 refine af (m:=checkCount "sorted" 1 1 _) (aq (af (jZ e0 ec eT ed (af (qz ?g2)) (cg (la h64) (by decide)))))
 case g2=>
 obtain⟨h1,eh1⟩:∃h1,h1=(s.heap.push (jo "list" #[] 0)).update s.heap.objs.size (fv (· ++ us.toArray)):=⟨_,rfl⟩
 have z1:h1.objs.size=s.heap.objs.size+1:=by rw[eh1,yq,size_push']
 have old:∀x o,s.heap.get? x=some o->(h1.push (jo "list" us.toArray 0)).get? x=some o:=λx o e=>by
  have hx:=br e
  refine ak _ ?_
  rw[eh1,qe _ _ _ _ (df hx)]
  exact ak _ e
 have e2:(h1.push (jo "list" us.toArray 0)).get? (s.heap.objs.size+1)=some (jo "list" us.toArray 0):=by rw[<- z1];exact bg _ rfl
 have hv2:PP (h1.push (jo "list" us.toArray 0)):=kp _ _ hP λx vs ⟨o,b1,b2,b3⟩=>⟨o,old x o b1,b2,b3⟩
 show wpAny _ _ _ _ _ { s with heap:=((s.heap.push (jo "list" #[] 0)).update s.heap.objs.size (fv (· ++ us.toArray))).push (jo "list" us.toArray 0) }
 rw[<- eh1,z1]
 refine af (ef (fc Av ⟨_,e2,rfl⟩ zu (rY (s:={ s with heap:=h1.push (jo "list" us.toArray 0) }) e2 hlen hv2 kp fst ask h64 λp hp=>⟨_,rfl,aq ⟨_,rfl,?g3⟩⟩) (Aw _)))
 case g3=>
  have:=q p hp
  unfold AY at this
  rw[<- eh1] at this
  exact this
def TriAt (h:Heap) (vs:List Value) (R:List (List Int)):Prop:=vs.length=R.length/\∀(i:Nat) (row:List Int),R[i]?=some row->∃(x q:Addr) (a b:Int) (ta tb:Tok) (us:List Value) (r:List Int),row=a :: b :: r/\r.length=2/\vs[i]?=some (.ref x)/\IsTup h x [Value.int a ta, .int b tb, .ref q].toArray/\IsTup h q us.toArray/\IntsAre us r
theorem TriAt.keep {h h':Heap}{vs:List Value}{R:List (List Int)}(hv:TriAt h vs R)(k:∀x us,IsTup h x us->IsTup h' x us):TriAt h' vs R:=
 ⟨hv.1,λi row hr=>by obtain⟨x,q,a,b,ta,tb,us,r,e0,e1,e2,e3,e4,e5⟩:=hv.2 i row hr;exact⟨x,q,a,b,ta,tb,us,r,e0,e1,e2,k _ _ e3,k _ _ e4,e5⟩⟩
theorem pK {h:Heap}:∀{vs:List Value}{R:List (List Int)},TriAt h vs R->∃fs,KatTups h vs fs/\fs.length=R.length/\∀v∈fs,∃i t,v = .int i t
 |[],[],_=>⟨[],trivial,rfl,λ_ z=>by cases z⟩
 |[],_ :: _,hv=>by cases hv.1
 |_ :: _,[],hv=>by cases hv.1
 |v :: vs,q :: R,hv=>by
  obtain⟨x,q',a,b,ta,tb,us,r,e0,er,e1,⟨o,a1,a2,n,a3⟩,_,_⟩:=hv.2 0 q rfl
  obtain⟨fs,k,l,f⟩:=pK (vs:=vs) (R:=R) ⟨by simpa using hv.1,λi row hr=>hv.2 (i+1) row hr⟩
  obtain rfl:v = .ref x:=by simpa using e1
  exact⟨.int a ta :: fs,⟨⟨x,o,_,n,rfl,a1,a2,a3,rfl⟩,k⟩,by simp[l],λv hv'=>by
   rcases b6.mp hv' with e | hv'
   ·exact⟨a,ta,e⟩
   ·exact f v hv'⟩
theorem aFQ (hu:A.units+10<cLine){vs:List Value}{R:List (List Int)}(hv:TriAt s.heap vs R){i j:Nat}{C:Bool->Shared->Prop}(hi:i<R.length)(hj:j<R.length)(h:C (rlt (rank R) i j) s):kas_ask prog w A (AJ true) vs i j C s:=by
 have at':∀k,k<R.length->∃(x q:Addr) (a b:Int) (ta tb:Tok) (us:List Value) (r:List Int),R.getD k []=a :: b :: r/\vs.getD k Value.none = .ref x/\IsTup s.heap x [Value.int a ta, .int b tb, .ref q].toArray/\IsTup s.heap q us.toArray/\IntsAre us r:=λk hk=>by
  obtain⟨x,q,a,b,ta,tb,us,r,e0,er,e1,e2,e3,e4⟩:=hv.2 k R[k] (ah hk)
  refine⟨x,q,a,b,ta,tb,us,r,?_,by rw[aj,e1];rfl,e2,e3,e4⟩
  rw[aj,ah hk]
  exact e0
 obtain⟨x,q,a,b,ta,tb,us,r,er,e1,⟨ox,a1,_,n1,d1⟩,o1,w1⟩:=at' i hi
 obtain⟨x',q',a',b',ta',tb',us',r',er',e2,⟨oy,a2,_,n2,d2⟩,o2,w2⟩:=at' j hj
 have e:rlt (rank R) i j=dA (R.getD i []) (R.getD j []):=by
  unfold rlt
  by_cases c:dA (R.getD i []) (R.getD j [])=true
  ·rw[c];exact decide_eq_true ((kJ hi hj).mpr c)
  ·rw[yw _ |>.mp c];exact decide_eq_false λz=>c ((kJ hi hj).mp z)
 rw[e,er,er',dA,dA] at h
 show wpAny (model prog w) A (keyLt' (AJ true) (vs.getD i Value.none) (vs.getD j Value.none)) C (λ_ _=>False) s
 rw[e1,e2]
 refine kat_lt a1 d1 a2 d2 ?_
 refine kat_cons (qr a ta a' ta' prog w _ _ ?_)
 by_cases c:a=a'
 ·rw[if_pos c] at h
  rw[show(a == a')=true from by rw[c];exact beq_self_eq_true _]
  refine kat_yes (kat_cons (qr b tb b' tb' prog w _ _ ?_))
  by_cases c2:b=b'
  ·rw[if_pos c2] at h
   rw[show(b == b')=true from by rw[c2];exact beq_self_eq_true _]
   refine kat_yes (kat_cons (aFS (by omega) o1 o2 w1 w2 prog w _ _ ?_))
   by_cases c3:eqL (r.map Dt.int) (r'.map Dt.int)=true
   ·rw[c3]
    rw[eQ c3,fO] at h
    exact kat_yes (kat_nil h)
   ·rw[yw _ |>.mp c3]
    exact kat_no (kat_one _ _ (aCl (by omega) o1 o2 w1 w2 h))
  ·rw[if_neg c2] at h
   rw[show(b == b')=false from beq_false_of_ne c2]
   exact kat_no (kat_one _ _ (nV h))
 ·rw[if_neg c] at h
  rw[show(a == a')=false from beq_false_of_ne c]
  exact kat_no (oneLt_int h)
end
section
variable {X:Cx}
def Tri (K:aa) (H:Hp) (b:Addr) (row:List Int):Prop:=∃(q:Addr) (x y t z:Int),row=[x,y,t,z]/\SqT K H b [.int x, .int y, .ref q]/\SqT K H q ([t,z].map V.int)
def iI (K:aa) (H:Hp) (xs:List V) (T:List (List Int)):Prop:=xs.length=T.length/\∀(i:Nat) (row:List Int),T[i]?=some row->∃b,xs[i]?=some (.ref b)/\Tri K H b row
def xH (K:aa):List V->Hp->VK->Prop:=λvs H Q=>∃(a:Addr) (xs:List V) (R:List (List Int)),vs=[.ref a]/\Sq K H a xs/\iI K H xs R/\R.length<64 /\
 ∀(ys:List V) (R':List (List Int)),R'.Perm R->R'.Pairwise (λa b=>dA b a=false)->ys.Perm xs->iI K H ys R'->∀l,H l=none->Q (.ref l) (upd H l (.lst ys))
theorem aAg {X:Cx}{k:Nat}(hr:Room k X.A):CallR X (.builtin "sorted") (xH X.K):=by
 intro pins s σ H vs us Q I r ⟨a,xs,R,e,hq,hR,h64,q⟩
 subst e
 obtain⟨u,rfl,ru⟩:=nQ r
 obtain rfl:u=Value.ref a:=ru
 have go:∀(its:List Value) (ob:Obj) (n:Nat) (T:String),Vals xs its->s.heap.get? a=some ob->ob.cls = .type T->(T="list"\/T="tuple")->ob.data = .seq its.toArray n->wpAny (model X.prog X.w) X.A (call (.builtin "sorted") [.ref a]) (EP X pins σ Q) X.xe s:=by
  intro its ob n T rv e0 ec eT ed
  have hl:=rv.length
  have hv:TriAt s.heap its R:=⟨by rw[<- hl];exact hR.1,λi row hr=>by
   obtain⟨b,e1,q,x,y,t,z,er,e2,e3⟩:=hR.2 i row hr
   obtain⟨u,eu,rU⟩:=rv.get e1
   obtain rfl:u=Value.ref b:=rU
   obtain⟨vs,rvs,pl,_⟩:=I.tuple e2
   obtain⟨ws,rws,pq,_⟩:=I.tuple e3
   cases rvs with
   |cons r1 rvs=>
    cases rvs with
    |cons r2 rvs=>
     cases rvs with
     |cons r3 rvs=>
      cases rvs
      obtain⟨t1,rfl⟩:=r1
      obtain⟨t2,rfl⟩:=r2
      obtain rfl:=(show _=Value.ref q from r3)
      exact⟨b,q,x,y,t1,t2,ws,[t,z],er,rfl,eu,pl,pq,dE rws⟩⟩
  refine zY e0 ec eT ed hv.1 hv (λh h' hv k=>hv.keep k) (λh hv=>pK hv) (λs i j C hv hi hj hC=>aFQ (by have:=hr.un;show X.A.units+1+1+10<cLine;omega) hv hi hj hC) (by rw[<- hl,hR.1];exact h64) λp hp=>?_
  obtain⟨f1,f2⟩:=yO hp
  have pl:p.toList.Perm (aw R.length):=by simpa using o7.mp hp.1
  have hb:∀i∈p.toList,i<R.length:=λi hi=>cf.mp (pl.mem_iff.mp hi)
  obtain⟨c,he⟩:=Bm s.heap its (ir (p.toList.map λi=>its.getD i Value.none))
  have ex:(aw R.length).map (λi=>xs.getD i V.non)=xs:=by
   apply ui
   ·simp[hR.1]
   ·intro i h1 h2
    rw[jq,w8,aj,ah h2];rfl
  have py:(p.toList.map λi=>xs.getD i V.non).Perm xs:=by have:=pl.map λi=>xs.getD i V.non;rw[ex] at this;exact this
  refine⟨.ref (s.heap.objs.size+1),_,I.laid (t':=s.toks) (o := .lst (p.toList.map λi=>xs.getD i V.non)) (λb ob q=>AZ q) (om _) ?_,rfl,q _ _ f1 f2 py ?_ _ (I.hok.fresh (om _))⟩
  ·refine⟨?_,p.toList.map λi=>its.getD i Value.none,c,?_,by simpa using he⟩
   ·rw[ai,pl.length_eq,cz]
    exact cg (la h64) (by decide)
   ·have all:∀l:List Nat,(∀i∈l,i<R.length)->Vals (l.map λi=>xs.getD i V.non) (l.map λi=>its.getD i Value.none):=by
     intro l
     induction l with
     |nil=>intro _;exact .nil
     |cons i l ih=>
      intro h
      have hi:i<xs.length:=by rw[hR.1];exact h i (b7 ..)
      obtain⟨u,eu,rU⟩:=rv.get (ah hi)
      refine .cons ?_ (ih λj hj=>h j (ar _ hj))
      show RelV (xs.getD i V.non) (its.getD i Value.none)
      rw[aj,aj,eu,ah hi]
      exact rU
    exact all _ hb
  ·refine⟨by rw[ai,ai],λi row hr=>?_⟩
   rw[az] at hr
   cases ep:p.toList[i]? with
   |none=>rw[ep] at hr;cases hr
   |some k=>
    rw[ep] at hr
    obtain rfl:R.getD k []=row:=da hr
    have hk:=hb k (cb ep)
    obtain⟨b,e1,e2⟩:=hR.2 k R[k] (ah hk)
    refine⟨b,?_,?_⟩
    ·rw[az,ep]
     show some (xs.getD k V.non)=_
     rw[aj,e1];rfl
    ·rw[aj,ah hk];exact e2
 rcases hq with hq | hq
 ·obtain⟨its,rv,pl,hz⟩:=I.list hq
  obtain⟨o,ho,hc,n,hd⟩:=pl.isList
  exact go its o n "list" rv ho hc (.inl rfl) hd
 ·obtain⟨its,rv,pl,hz⟩:=I.tuple hq
  obtain⟨o,ho,hc,n,hd⟩:=pl
  exact go its o n "tuple" rv ho hc (.inr rfl) hd
theorem nJ {K:aa}{k:Nat}(hK:X.K=K)(hr:Room k X.A):CallR X (.builtin "sorted") (xH K):=by subst hK;exact aAg hr
end
section
variable {X:Cx}{a b c d:Expr}{ta tb tc td:TE}{pos:Pos}
end
end L2
namespace L2
open PySem PySem.Spec PyProof.Rows
section
variable {M:Model}{A:Around}{E:Value->Shared->Prop}{s:Shared}
end
section
variable {X:Cx}{pins:List (Addr×Obj)}{σ:St}{H:Hp}{s:Shared}{E:XK}{a:Addr}{cls a0:Value}{B h2:Heap}
end
section
variable {P:Program}{w:World}{K:aa}{mg:Str->Option Value}{base:Heap}{N:List Str}{qual:Str}{scope:Scope}{f:Addr}{cd:Value}{A:Around}{outer:List Env}{s₀:Shared}{H₀:Hp}{E:XK}
end
section
variable {X:Cx}
end
section
variable {X:Cx}{elt target iter:Expr}{ifs:List Expr}{rest:List Comprehension}{scope:Scope}{pos:Pos}{N':List Str}{ix:List (Option Nat)}{wi:TI}{g:TG}{ts:List TT}{tb:Addr->TS}{E:XK}
end
section
variable {prog:Program}{w:World}{A:Around}{E:Value->Shared->Prop}{s:Shared}
end
section
variable {prog:Program}{w:World}{A:Around}{s:Shared}{R:Bs->Shared->Prop}
end
section
variable {prog:Program}{w:World}{A:Around}{E:Value->Shared->Prop}{s:Shared}
end
section
variable {X:Cx}{pins:List (Addr×Obj)}{σ:St}{H H2:Hp}{s:Shared}{h':Heap}
end
def aDI (f:Bool):List (Int×Int)->Bool
 |[]=>f
 | (a,b) :: r=>if a=b then aDI f r else decide (a > b)
theorem aCa:∀(ns ms:List Int),aDI (decide (ns.length > ms.length)) (ns.zip ms)=dA ms ns
 |[],[]=>rfl
 |[],m :: ms=>by simp[aDI,dA]
 |n :: ns,[]=>by simp[aDI,dA]
 |n :: ns,m :: ms=>by
  rw[rb,aDI,dA,<- aCa ns ms]
  have:decide ((n :: ns).length > (m :: ms).length)=decide (ns.length > ms.length):=by
   by_cases h:ns.length > ms.length <;> simp[h]
  rw[this]
  by_cases e:n=m
  ·rw[if_pos e,if_pos e.symm]
  ·rw[if_neg e,if_neg (λz=>e z.symm)]
theorem zN {prog:Program}{w:World}{A:Around}{E:Value->Shared->Prop}{s:Shared}{a b:Int}{t u:Tok}{Q:Value->Shared->Prop}(h:Q (.bool (decide (a > b))) s):wpAny (model prog w) A (qb .Gt (.int a t) (.int b u)) Q E s:=gt_int h
theorem aCt (l b:Addr)(us vs:Array Value)(n n2:Nat)(dd dd2:Option Addr)(sl sl2:Array (Option Value))(zs:List (Int×Int))(hz:lE (us.toList.zip vs.toList) zs) :
  Meets (Builtin.«tuple.__gt__» ⟨[.ref l, .ref b],[]⟩)
   (λ_ R s=>s.heap.get? l=some { cls := .type "tuple",dict:=dd,data := .seq us n,slots:=sl }/\s.heap.get? b=some { cls := .type "tuple",dict:=dd2,data := .seq vs n2,slots:=sl2 }/\R (.ok (.ret (.bool (aDI (decide (us.size > vs.size)) zs)))) s):=
 .of_wp λprog w A R s h=>by
  obtain⟨s1,s2,s3,s4,s5⟩:=s
  obtain⟨gl,gb,h⟩:=h
  have f2:=qj
  wp_walk using jg gl,jg gb,yt _ (λrest b s'=>b.1=none/\s'=⟨s1,s2,s3,s4,s5⟩/\∃ys,lE rest ys/\R (.ok (.ret (.bool (aDI (decide (us.size > vs.size)) ys)))) ⟨s1,s2,s3,s4,s5⟩) _
  case turn=>
   rintro⟨y,x⟩ rest b s' ⟨hb',rfl,ys,hy,hR⟩
   cases hy with
   |cons p q t u hr=>
    refine af (ug ?_)
    by_cases e:p=q
    ·rw[show(p == q)=true by simpa using e]
     rw[aDI,if_pos e] at hR
     wp_walk
     exact⟨rfl,rfl,_,hr,hR⟩
    ·rw[show(p == q)=false by simpa using e]
     rw[aDI,if_neg e] at hR
     wp_walk using zN
     exact⟨_,rfl,hR⟩
  case fin=>
   rintro⟨b1,b2⟩ s' ⟨hb',rfl,ys,hy,hR⟩
   simp only at hb'
   subst hb'
   cases hy
   wp_walk
   exact⟨_,rfl,hR⟩
  case h=>
   exact⟨rfl,rfl,zs,hz,h⟩
section
variable {prog:Program}{w:World}{A:Around}{R:Bs->Shared->Prop}{It:Addr}{fp wr:List Addr}{n:Nat}{P:Nat->Value->Prop}{St:Nat->Heap->Prop}
def aJz (prog:Program) (w:World) (A:Around) (kp:Heap->Prop) (P:Nat->Value->Prop) (bt:Nat->Nat->Bool):Prop:=
 ∀i j x y (s:Shared) (Q:Value->Shared->Prop) (E:Value->Shared->Prop),kp s.heap->P i x->P j y->Q (.bool (bt i j)) s->wpAny (model prog w) A (qb .Gt x y) Q E s
theorem aLp (W:Walks prog w A.in1 It fp wr n P St)(bt:Nat->Nat->Bool){kp:Heap->Prop}(z:Addr)(hz:z∉fp)(kk:Kp kp wr z)(hc:aJz prog w A.in1 kp P bt) :
  ∀(k j:Nat) (s:Shared) (x:Value) (c:Nat),n - (j+1)=k->j+1<=n->kp s.heap->St (j+1) s.heap->P (ju bt j) x->s.heap.get? z=some { cls := .type "list",dict:=none,data := .seq #[x,x] c,slots:=#[] } ->
  (∀v h' tk,P (ju bt (n - 1)) v->(∀b o,b∉wr->b≠z->s.heap.get? b=some o->h'.get? b=some o)->R (.ok (.ret v)) { s with heap:=h',toks:=tk }) ->
  vg (model prog w) A (.builtin "max.loop" ⟨[.ref It, .none, .ref z],[]⟩) R s:=by
 have zw:z∉wr:=λh=>hz (W.sub _ h)
 have nm:(ra "max" ++ ra ".loop" : String)="max.loop":=by decide
 intro k
 induction k with
 |zero=>
  intro j s x c hk hj kp0 st px gz hR
  have en:j+1=n:=by omega
  refine jy yx ?g
  case g=>
  rw[j6 k9 _];show wpAny _ A.in1 (vp (.ref z) >>= _) _ _ s;refine af (fm gz rfl ?g)
  case g=>
  show wpAny _ A.in1 (yg (wd (.ref It)) _ >>= _) _ _ s;refine af (l8 (W.done s _ _ (en ▸ st) λh' tk kh=>?g))
  case g=>
  show wpAny _ A.in1 (By z (λ_=>#[]) >>= _) _ _ _;refine af (mi (kh z _ zw gz) rfl (af (kg (aq ?g))))
  case g=>
  exact hR x _ tk (by rw[<- en];exact px) λb o bw bz e=>(ig _ _ (jh bz)).trans (kh b o bw e)
 |succ k ih=>
  intro j s x c hk hj kp0 st px gz hR
  have lt:j+1<n:=by omega
  refine jy yx ?g
  case g=>
  rw[j6 k9 _];show wpAny _ A.in1 (vp (.ref z) >>= _) _ _ s;refine af (fm gz rfl ?g)
  case g=>
  show wpAny _ A.in1 (yg (wd (.ref It)) _ >>= _) _ _ s;refine af (l8 (W.item (j+1) s _ _ lt st λv h' tk pv st' kh=>?g))
  case g=>
  have gz':=kh z _ zw gz
  have kp1:kp h':=kk _ _ kp0 λb o bw _ e=>kh b o bw e
  show wpAny _ A.in1 (yg (ya [v,v] (qb .Gt v x >>= _)) _ >>= _) _ _ _;refine af (l8 (ef (af (hc (j+1) (ju bt j) v x _ _ _ kp1 pv px ?g))))
  case g=>
  refine af (ef (iw (af (kg (aq ?g)))))
  case g=>
  cases hb:bt (j+1) (ju bt j) with
  |true=>
   simp only[if_true];refine af (mi gz' rfl (af (kg ?g)))
   case g=>
   have up:∀b o,b≠z->h'.get? b=some o->(h'.update z (fv λ_=>#[v,v])).get? b=some o:=λb o bz e=>(ig _ _ (jh bz)).trans e
   rw[nm];refine aq ⟨ng k9 _,ih (j+1) _ v _ (by omega) lt (kk _ _ kp1 λb o _ bz e=>up b o bz e) (W.frame _ _ _ st' λb bf o e=>up b o (λq=>hz (by rw[<- q];exact bf)) e) (by simp only[ju,hb,if_true];exact pv) (jx _ gz' rfl) λv' h2 tk2 pv' kh2=>?g⟩
   case g=>
   exact hR v' h2 tk2 pv' λb o bw bz e=>kh2 b o bw bz (up b o bz (kh b o bw e))
  |false=>
   simp only[dq,if_false];refine af (kg ?g)
   case g=>
   rw[nm];refine aq ⟨ng k9 _,ih (j+1) _ x c (by omega) lt kp1 st' (by simp only[ju,hb,dq,if_false];exact px) gz' λv' h2 tk2 pv' kh2=>?g⟩
   case g=>
   exact hR v' h2 tk2 pv' λb o bw bz e=>kh2 b o bw bz (kh b o bw e)
theorem aLm (W:Walks prog w A.in1 It fp wr n P St)(bt:Nat->Nat->Bool){kp:Heap->Prop}(z:Addr)(hz:z∉fp)(kk:Kp kp wr z)(hc:aJz prog w A.in1 kp P bt)(hn:0<n){s:Shared}{c:Nat}(kp0:kp s.heap)(st:St 0 s.heap)(gz:s.heap.get? z=some { cls := .type "list",dict:=none,data := .seq #[] c,slots:=#[] })
  (hR:∀v h' tk,P (ju bt (n - 1)) v->(∀b o,b∉wr->b≠z->s.heap.get? b=some o->h'.get? b=some o)->R (.ok (.ret v)) { s with heap:=h',toks:=tk }) :
  vg (model prog w) A (.builtin "max.loop" ⟨[.ref It, .none, .ref z],[]⟩) R s:=by
 have zw:z∉wr:=λh=>hz (W.sub _ h)
 have nm:(ra "max" ++ ra ".loop" : String)="max.loop":=by decide
 refine jy yx ?g
 case g=>
 rw[j6 k9 _];show wpAny _ A.in1 (vp (.ref z) >>= _) _ _ s;refine af (fm gz rfl ?g)
 case g=>
 show wpAny _ A.in1 (yg (wd (.ref It)) _ >>= _) _ _ s;refine af (l8 (W.item 0 s _ _ hn st λv h' tk pv st' kh=>?g))
 case g=>
 have gz':=kh z _ zw gz
 have kp1:kp h':=kk _ _ kp0 λb o bw _ e=>kh b o bw e
 have up:∀b o,b≠z->h'.get? b=some o->(h'.update z (fv λ_=>#[v,v])).get? b=some o:=λb o bz e=>(ig _ _ (jh bz)).trans e
 show wpAny _ A.in1 (By z (λ_=>#[v,v]) >>= _) _ _ _;refine af (mi gz' rfl ?g)
 case g=>
 rw[nm];refine aq ⟨ng k9 _,aLp W bt z hz kk hc _ 0 _ v _ rfl hn (kk _ _ kp1 λb o _ bz e=>up b o bz e) (W.frame _ _ _ st' λb bf o e=>up b o (λq=>hz (by rw[<- q];exact bf)) e) pv (jx _ gz' rfl) λv' h2 tk2 pv' kh2=>?g⟩
 case g=>
 exact hR v' h2 tk2 pv' λb o bw bz e=>kh2 b o bw bz (up b o bz (kh b o bw e))
end
section
variable {prog:Program}{w:World}{A:Around}{E:Value->Shared->Prop}{s:Shared}
theorem zT {x:Value}{Q:Value->Shared->Prop}
  (h:wpAny (model prog w) A.in1 (Bd x) (λit s₂=>∃It fp wr n P St bt,∃kp:Heap->Prop,it = .ref It/\Walks prog w A.in1 It fp wr n P St/\St 0 s₂.heap/\(∀b∈fp,b<s₂.heap.objs.size)/\0<n/\kp s₂.heap/\(∀z,s₂.heap.objs.size<=z->Kp kp wr z)/\aJz prog w A.in1 kp P bt /\
   ∀v h' tk,P (ju bt (n - 1)) v->(∀b o,b∉wr->s₂.heap.get? b=some o->h'.get? b=some o)->Q v { s₂ with heap:=h',toks:=tk }) E s) :
  wpAny (model prog w) A (call (.builtin "max") [x]) Q E s:=by
 have nm:(ra "max" ++ ra ".loop" : String)="max.loop":=by decide
 refine call_function_tree F.kind_max F.plain_max F.entry_max (F.args_max1 _) ?g
 case g=>
 show wpAny _ A.in1 (ki "max" ["key","default"] 0 ⟨[],[]⟩ >>= _) _ _ s;refine af (ye (show ki "max" ["key","default"] 0 ⟨[],[]⟩=pure [none,none] from rfl) (af (aq (af (fz h (λit s2 h2=>?g) λ_ _ e=>e)))))
 case g=>
 obtain⟨It,fp,wr,n,P,St,bt,kp,rfl,W,st,hf,hn,kp0,kk,hc,hQ⟩:=h2
 refine af (fb ?g)
 case g=>
 have zf:s2.heap.objs.size∉fp:=λm=>j7 _ (hf _ m)
 have kz:=kk s2.heap.objs.size (ay _)
 rw[nm];refine aq ⟨ng k9 _,aLm W bt s2.heap.objs.size zf kz hc hn (kz _ _ kp0 λb o _ _ e=>ak _ e) (W.frame _ _ _ st λb _ o e=>ak _ e) (bg _ rfl) λv h' tk pv kh=>?g⟩
 case g=>
 exact hQ v h' tk pv λb o bw e=>kh b o bw (df (br e)) (ak _ e)
end
theorem aFN {prog:Program}{w:World}{A:Around}{E:Value->Shared->Prop}{s:Shared}{a b:Addr}{us vs:List Value}{ns ms:List Int}{Q:Value->Shared->Prop}(hu:A.units<cLine)(ha:IsTup s.heap a us.toArray)(hb:IsTup s.heap b vs.toArray)(h1:IntsAre us ns)(h2:IntsAre vs ms)(q:Q (.bool (dA ms ns)) s) :
  wpAny (model prog w) A (qb .Gt (.ref a) (.ref b)) Q E s:=by
 obtain⟨⟨oc,od,odt,osl⟩,e1,c1,n1,d1⟩:=ha
 obtain⟨⟨pc,pd,pdt,psl⟩,e2,c2,n2,d2⟩:=hb
 subst c1 d1 c2 d2
 refine y9 (op := .Gt) ⟨_,e1,rfl⟩ ⟨_,e2,rfl⟩ F.slot_tuple_gt F.entry_tuple_gt (F.args_tuple_gt_2 _ _) (aCt a b us.toArray vs.toArray n1 n2 od pd osl psl (ns.zip ms) (aCi h1 h2)) ⟨e1,e2,?g⟩ hu
 case g=>
 have l1:=IntsAre.len h1
 have l2:=IntsAre.len h2
 rw[av,av,l1,l2,aCa]
 exact⟨λz=>(by cases z),q⟩
def aFI (K:aa):List V->Hp->VK->Prop:=λvs H Q=>∃(a:Addr) (xs:List V) (T:List (List Int)),vs=[.ref a]/\Sq K H a xs/\Rows K H xs T/\T≠[]/\∀(i:Nat) (b:Addr) (row:List Int),xs[i]?=some (.ref b)->T[i]?=some row->SqT K H b (row.map V.int)->(∀r∈T,dA row r=false)->Q (.ref b) H
theorem aCo {X:Cx}{k:Nat}(hr:Room k X.A)(hc:X.calm=true):CallR X (.builtin "max") (aFI X.K):=by
 intro pins s σ H vs us Q I r ⟨a,xs,T,e,hq,hR,hne,q⟩
 subst e
 obtain⟨u,rfl,ru⟩:=r.one
 obtain rfl:u=Value.ref a:=ru
 refine zT (jF (I.ok.hd hc) I hq λits It fp wr S s2 rv hz W st hf hI=>?g)
 case g=>
 have hl:its.length=T.length:=by rw[<- rv.length,hR.1]
 have hpos:0<T.length:=vm.mpr hne
 have item:∀(i:Nat) (v:Value),its[i]?=some v->∃b row,v = .ref b/\T[i]?=some row/\xs[i]?=some (.ref b)/\SqT X.K H b (row.map V.int):=λi v hv=>by
  obtain⟨x,hx,rx⟩:=rv.getR hv
  have hi:i<T.length:=by rw[<- hR.1];exact(au.mp hx).1
  obtain⟨b,e1,e2⟩:=hR.2 i _ (ah hi)
  rw[e1] at hx
  cases hx
  exact⟨b,_,rx,ah hi,e1,e2⟩
 refine⟨It,fp,wr,its.length,_,S,λi j=>dA (T.getD j []) (T.getD i []),λh=>∀b o,b∉wr->s2.heap.get? b=some o->h.get? b=some o,rfl,W,st,hf,by omega,λb o _ e=>e,λz hz0 h h' k1 k2 b o bw e=>k2 b o bw (λq0=>Nat.not_lt.mpr hz0 (q0 ▸ br e)) (k1 b o bw e),λi j vi vj s' Q' E' kp hi hj hQ'=>?g,λv h' tk hv hk=>?h⟩
 case g=>
  obtain⟨b1,r1,rfl,t1,_,q1⟩:=item i vi hi
  obtain⟨b2,r2,rfl,t2,_,q2⟩:=item j vj hj
  have I':=hI s'.heap s'.toks kp
  obtain⟨us1,v1,p1,_⟩:=I'.tuple q1
  obtain⟨us2,v2,p2,_⟩:=I'.tuple q2
  refine aFN (ns:=r1) (ms:=r2) (us:=us1) (vs:=us2) (by have:=hr.un;show X.A.units+1<cLine;omega) p1 p2 (dE v1) (dE v2) ?g
  case g=>
  have e1:T.getD i []=r1:=by rw[aj,t1];rfl
  have e2:T.getD j []=r2:=by rw[aj,t2];rfl
  have hQ2:Q' (Value.bool (dA (T.getD j []) (T.getD i []))) s':=hQ'
  rw[e1,e2] at hQ2
  exact hQ2
 case h=>
  obtain⟨b,row,rfl,t1,e1,q1⟩:=item _ v hv
  refine⟨.ref b,H,hI h' tk hk,rfl,q _ b row e1 t1 q1 λr0 hr0=>?g⟩
  case g=>
  obtain⟨j,hj,rfl⟩:=iq hr0
  have:=fN (bt:=λi j=>dA (T.getD j []) (T.getD i [])) (λi=>fO _) (λi j k h1 h2=>fB h2 h1) (its.length - 1) j (by omega)
  have e1:T.getD j []=T[j]:=by rw[aj,ah hj];rfl
  have e2:T.getD (ju (λi j=>dA (T.getD j []) (T.getD i [])) (its.length - 1)) []=row:=by rw[aj,t1];rfl
  have g:dA (T.getD (ju (λi j=>dA (T.getD j []) (T.getD i [])) (its.length - 1)) []) (T.getD j [])=false:=this
  rw[e1,e2] at g
  exact g
theorem aAw {X:Cx}{K:aa}{k:Nat}(hK:X.K=K)(hr:Room k X.A)(hc:X.calm=true):CallR X (.builtin "max") (aFI K):=by subst hK;exact aCo hr hc
def aJH (d:Addr) (o:Obj) (kvs:List (Key×V)):It:=
 ⟨λi H=>i<kvs.length/\H d=some (.frz o (.dK kvs)),λi H v H'=>∃p k x,v = .ref p/\H p=none/\kvs[i]?=some (k,x)/\H'=upd H p (.tup [kV k,x]),λi H=>i=kvs.length/\H d=some (.frz o (.dK kvs))⟩
theorem xL {P:Program}{w:World}:∀{es:List DictEntry}{vs:List (Key×Value)},Pairs (cI P w) es vs->∀{i:Nat}{k:Key}{x:Value},vs[i]?=some (k,x)->∃e,es[i]?=some e/\(cI P w).is k e.key=true/\e.val=x
 |_,_, .nil,_,_,_,h=>by cases h
 |_,_, .cons h1 h2 t,0,k,x,h=>by
  simp only[nh,t4] at h
  subst h
  exact⟨_,by simp,h1,h2⟩
 |_,_, .cons _ _ t,i+1,k,x,h=>by
  obtain⟨e,a,b,c⟩:=xL t (i:=i) (by simpa using h)
  exact⟨e,by simpa using a,b,c⟩
theorem aIS {κ:Type}:∀{l:List (κ×V)}{m:List (κ×Value)},KV l m->∀{i:Nat}{k:κ}{v:V},l[i]?=some (k,v)->∃x,m[i]?=some (k,x)/\RelV v x
 |_,_, .nil,_,_,_,h=>by cases h
 |_,_, .cons (a:=p) (b:=q) r t,0,k,v,h=>by
  have e:p=(k,v):=by simpa using h
  subst e
  exact⟨q.2,by rw[nh,show q=(k,q.2) from yc r.1.symm rfl],r.2⟩
 |_,_, .cons _ t,i+1,k,v,h=>by
  obtain⟨x,a,b⟩:=aIS t (i:=i) (by simpa using h)
  exact⟨x,by simpa using a,b⟩
theorem aHy {P:Program}{w:World}{H:Hp}{h:Heap}{d:Addr}{o:Obj}{kvs:List (Key×V)}(ok:HOk P w H h)(hd:H d=some (.frz o (.dK kvs))):(d == jt)=false/\h.get? d=some o/\o.ExactDict/\∃es ep,o.data = .dict es ep/\es.size=kvs.length/\∀(i:Nat) (k:Key) (x:V),kvs[i]?=some (k,x)->∃e,es[i]?=some e/\RelV (kV k) e.key/\RelV x e.val:=by
 obtain⟨e1,z,y,vs,r,o',es,ep,h1,h2,h3,h4,h5,h6⟩:=ok d _ hd
 rw[e1] at h1
 cases h1
 have hl:=KV.len r
 have hp:=h5.length
 refine⟨y,e1,h2,es,ep,h3,by rw[hl,<- hp,gf],λi k x hx=>?_⟩
 obtain⟨u,hu,ru⟩:=aIS r hx
 obtain⟨e,he,hk,hv⟩:=xL h5 hu
 exact⟨e,by rw[<- oq];exact he,aGo hk,by rw[hv];exact ru⟩
theorem vJ {P:Program}{w:World}{K:aa}{es:List Expr}{k:Nat}{pos:Pos}{d it:Addr}{o:Obj}{kvs:List (Key×V)}{des:Array DictEntry}{ep:Nat}(hne:d≠it)(hdat:o.data = .dict des ep)(hz:des.size=kvs.length) :
  aDc P w K (.Tuple es k pos) (aJH d o kvs) [it] it (λi h=>∃k0 v0,qk h it d i kvs.length ep k0 v0) where
 mem:=by simp
 obj:=λi h ⟨k0,v0,e⟩ b hb=>by
  obtain rfl:b=it:=by simpa using hb
  exact⟨_,e,λv z=>by cases z⟩
 keep:=λi h h' ⟨k0,v0,e⟩ kp=>⟨k0,v0,kp it (by simp) _ e⟩
 item:=by
  intro X hP hw hK hc i pins s σ H E I hf st hg
  subst hP hw hK
  obtain⟨k0,v0,st⟩:=st
  obtain⟨hi,hd⟩:=hg
  obtain⟨_,h1,h2,es',ep',h3,_,hat⟩:=aHy I.hok hd
  rw[hdat] at h3
  cases h3
  obtain⟨⟨ky,x⟩,hkx⟩:∃p,kvs[i]=p:=⟨_,rfl⟩
  have hki:kvs[i]?=some (ky,x):=by rw[ah hi,hkx]
  obtain⟨e,he,ek,ev⟩:=hat i ky x hki
  rw[<- hz] at st
  refine nW st h1 hdat he λh' g1 g3 g4 kp=>⟨_,rfl,?_⟩
  refine vw (s:={ s with heap:=h' }) g1 λh2' g1' sb=>?_
  have hn:H s.heap.objs.size=none:=I.hok.fresh (ay _)
  have lt:it<s.heap.objs.size:=br st
  have I1:Inv X pins σ (upd H s.heap.objs.size (.tup [kV ky,x])) { s with heap:=s.heap.push { cls := .type "tuple",data := .seq #[e.key,e.val] } }:=
   I.laid (t':=s.toks) (λc o e=>ak _ e) (ay _) (show ObjOk X.prog X.w _ _ _ (.tup [kV ky,x]) from⟨show 2<=ba by decide,[e.key,e.val], .cons ek (.cons ev .nil),TupN.new _ _⟩)
  have hf1:∀c∈[it],sY X pins (upd H s.heap.objs.size (.tup [kV ky,x])) c:=λc hb=>by
   obtain rfl:c=it:=by simpa using hb
   obtain⟨f0,f⟩:=hf c hb
   exact⟨by rw[aL (df lt)];exact f0,f⟩
  have I2:Inv X pins σ (upd H s.heap.objs.size (.tup [kV ky,x])) { s with heap:=h' }:=I1.turnedL (t':=s.toks) hf1 λc o nb e=>by
   rcases ur e with⟨eb,eo⟩ | e
   ·subst eb;subst eo
    exact g3
   ·exact kp c o (λq=>nb (by simp[q])) e
  have I3:Inv X pins σ (upd H s.heap.objs.size (.tup [kV ky,x])) { s with heap:=h2' }:=I2.turnedL (t':=s.toks) hf1 λc o nb e=>sb.extBut _ _ (λq=>nb (by simp[q])) e
  rw[hz] at g1'
  exact⟨.ref s.heap.objs.size,_,I3,rfl,⟨_,ky,x,rfl,hn,hki,rfl⟩,⟨_,_,g1'⟩,λc hb=>(hf1 c hb).1⟩
 done:=by
  intro X hP hw hK hc i pins s σ H E I hf st hg
  subst hP hw hK
  obtain⟨k0,v0,st⟩:=st
  obtain⟨hi,hd⟩:=hg
  subst hi
  obtain⟨_,h1,h2,es',ep',h3,_,_⟩:=aHy I.hok hd
  rw[hdat] at h3
  cases h3
  rw[<- hz] at st
  refine pJ (I.ok.hd hc) st h1 hdat λh' kp=>⟨rfl,?_⟩
  exact I.turnedL (t':=s.toks) hf λc o n e=>kp c o (λq=>n (by simp[q])) e
 self:=λ_ _ s _ _ st q=>by
  obtain⟨k0,v0,st⟩:=st
  exact PySem.W.kcp_self st q
def aBU (td:TE):TI:=λσ H R=>td σ H λx H1=>∃d kvs,x = .ref d/\H1 d=some (.dK kvs)/\∀o,R (aJH d o kvs) (upd H1 d (.frz o (.dK kvs)))
theorem aBe {X:Cx}{es:List Expr}{k:Nat}{po apos cpos:Pos}{o:Expr}{td:TE}(ho:PE X o td)
  (hbase:qu o "items" X.env (eval o X.env)=eval o X.env:=by rfl) (hline:(apos.endLine == cpos.line)=true:=by rfl) :
  PI X (.Tuple es k po) (.Call (.Attribute o "items" apos) [] [] cpos) (aBU td):=by
 intro pins s σ H R I h
 refine qv hbase hline (thn (ho pins s σ H _ I h) λv s1 ⟨x,H1,I1,r1,d,kvs,ex,hd,q1⟩=>?_)
 subst ex
 obtain rfl:v=Value.ref d:=r1
 obtain⟨_,ysm,vs,r,ob,des,ep,eo,ex,edt,rest⟩:=I1.hok d _ hd
 have hT:s1.TypeIs (.ref d) "dict":=⟨ob,eo,ex.1⟩
 have hz:des.size=kvs.length:=by rw[KV.len r,<- rest.2.1.length,gf]
 refine⟨"dict","dict.items",F.plainAttrs_dict,xq,F.type_dict_items,hT,λa ea=>by cases ea;exact⟨ob,eo,ex.2.1⟩,n5 rfl (vh (mQ ysm hT ?_))⟩
 have hv:(s1.heap.push (sW d)).IsItemsView s1.heap.objs.size d:=⟨_,bg _ rfl,rfl,rfl⟩
 have h1':(s1.heap.push (sW d)).get? d=some ob:=ak _ eo
 refine nX (s:={ s1 with heap:=s1.heap.push (sW d) }) hv h1' edt ?_
 have I1':=I1.freeze hd eo
 have I2:Inv X pins σ (upd H1 d (.frz ob (.dK kvs))) { s1 with heap:=s1.heap.push (sW d) }:=I1'.kept (t':=s1.toks) λb o e=>ak _ e
 have I3:Inv X pins σ (upd H1 d (.frz ob (.dK kvs))) { s1 with heap:=(s1.heap.push (sW d)).push (aJo d des.size ep) }:=I2.kept (t':=s1.toks) λb o e=>ak _ e
 have hne:d≠(s1.heap.push (sW d)).objs.size:=df (br h1')
 refine⟨_,[(s1.heap.push (sW d)).objs.size],_,_,_,rfl,I3,vJ hne edt hz,⟨_,_,by rw[<- hz];exact bg _ rfl⟩,λc hb=>?_,q1 ob⟩
 obtain rfl:c=(s1.heap.push (sW d)).objs.size:=by simpa using hb
 exact I2.fpOk (ay _) (I2.hok.fresh (ay _))
theorem zS {d:Addr}{o:Obj}{kvs:List (Key×V)}{g:TG}{tb:TS}{D:hU}{σ:St}{H:Hp}(Pv:Nat->St->Hp->Prop)(h0:Pv 0 σ H)(hl:∀i σ H,i<=kvs.length->Pv i σ H->H d=some (.frz o (.dK kvs)))
  (hs:∀i k x σ H p,kvs[i]?=some (k,x)->H p=none->Pv i σ H->g (.ref p) σ (upd H p (.tup [kV k,x])) λσ2 H2=>tb { D with nx:=Pv (i+1),ct:=Pv (i+1),bk:=D.nx } σ2 H2) (hd:∀σ H,Pv kvs.length σ H->D.nx σ H) :
  eK (aJH d o kvs) g tb D σ H:=by
 refine⟨λi m σ H=>m=kvs.length - i/\i<=kvs.length/\Pv i σ H,⟨kvs.length,by simp,bc _,h0⟩,?_⟩
 rintro i m σ H ⟨rfl,hi,p⟩
 have q1:=hl i σ H hi p
 by_cases hlt:i<kvs.length
 ·refine .inr ⟨⟨hlt,q1⟩,Pv (i+1),λσ' H' p'=>⟨kvs.length - (i+1),by omega,rfl,hlt,p'⟩,λv H' ⟨a,k,x,e1,e2,e3,e4⟩=>?_⟩
  subst e1;subst e4
  exact hs i k x σ H a e3 e2 p
 ·obtain rfl:i=kvs.length:=by omega
  exact .inl ⟨⟨rfl,q1⟩,hd σ H p⟩
theorem aId {X:Cx}{K:aa}(hK:X.K=K)(hu:X.A.units+101<cLine):OpR X (i8 .NotEq) (aAc K):=by subst hK;exact aFf hu
end L2
namespace K64
open PySem L2
def top (i:Nat):Stmt:=PySem.Challenge.pw_homeround_k64_rounds_of_trees.main.body.getD i (.Pass ⟨0,0,0,0⟩)
section
variable {P:Program}{w:World}{K:aa}{mg:Str->Option Value}{base:Heap}
variable (B:aKB mg){p0:Sp}(d0:Def P w K mg base "is_whole" 1 ["thing"] p0){p1:Sp}(d1:Def P w K mg base "tied_to" 1 ["ties","place"] p1){p2:Sp}(d2:Def P w K mg base "common_measure" 1 ["one","other"] p2){p3:Sp}(d3:Def P w K mg base "are_wholes" 2 ["thing"] p3){c0:Addr}(e0:mg "NotEven" = some (.ref c0))(x0:ni K c0 aHc "ValueError.__new__" = true){p4:Sp}(d4:Def P w K mg base "breaking_four" 2 ["table"] p4){p5:Sp}(d5:Def P w K mg base "draw" 3 ["table"] p5){p6:Sp}(d6:Def P w K mg base "is_even" 1 ["table"] p6){p7:Sp}(d7:Def P w K mg base "does_break" 1 ["table","i","j","k","l"] p7){p8:Sp}(d8:Def P w K mg base "hang" 1 ["table","above","depths","place"] p8){p9:Sp}(d9:Def P w K mg base "lowest" 2 ["top","bottom"] p9){c1:Addr}(e1:mg "NoTable" = some (.ref c1))(x1:ni K c1 aHc "ValueError.__new__" = true){p10:Sp}(d10:Def P w K mg base "bare_ties" 1 ["drawn"] p10){p11:Sp}(d11:Def P w K mg base "length" 1 ["table","round_"] p11){p12:Sp}(d12:Def P w K mg base "walked_from" 16 ["ties","place","before"] p12){p13:Sp}(y0:DefX P w K mg base "tree_or_four" 4 ["table"] p13){c2:Addr}(e2:mg "START" = some (.ref c2)){p14:Sp}(d13:Def P w K mg base "least_rests" 3 ["table"] p14){p15:Sp}(d14:Def P w K mg base "round_by_rests" 3 ["table","rests"] p15){p16:Sp}(d15:Def P w K mg base "onward" 2 ["table","rests","some","last"] p16){p17:Sp}(d16:Def P w K mg base "parts_with_home" 1 ["many"] p17){p18:Sp}(d17:Def P w K mg base "joined" 1 ["some","place"] p18){p19:Sp}(d18:Def P w K mg base "places_left" 1 ["table","some"] p19){p20:Sp}(d19:Def P w K mg base "_law_e_fresh" 1 ["pen"] p20){p21:Sp}(d20:Def P w K mg base "_law_e_take" 2 ["pen","many"] p21){p22:Sp}(d21:Def P w K mg base "_law_e_scaled" 1 ["drawn"] p22){p23:Sp}(d22:Def P w K mg base "_law_e_ways" 1 ["ties","place"] p23){p24:Sp}(d23:Def P w K mg base "_law_e_is_broken" 1 ["table","four"] p24){p25:Sp}(d24:Def P w K mg base "_law_e_drawn" 3 ["pen","many"] p25){p26:Sp}(d25:Def P w K mg base "_law_e_straight" 1 ["table"] p26){p27:Sp}(d26:Def P w K mg base "_law_e_table" 3 ["pen","many","even"] p27){p28:Sp}(d27:Def P w K mg base "_law_e_tree_table" 2 ["drawn","many"] p28){c3:Addr}(e3:mg "NoBack" = some (.ref c3)){c4:Addr}(e4:mg "NoRow" = some (.ref c4)){c5:Addr}(e5:mg "NoText" = some (.ref c5)){c6:Addr}(e6:mg "NotStraight" = some (.ref c6)){c7:Addr}(e7:mg "RoundError" = some (.ref c7)){c8:Addr}(e8:mg "TooFew" = some (.ref c8)){c9:Addr}(e9:mg "TooMany" = some (.ref c9))(GV:mg "ValueError" = none){p29:Sp}(y1:DefX P w K mg base "tree_round" 17 ["table"] p29){p30:Sp}(d28:Def P w K mg base "_law_e_breaks" 2 ["table"] p30){p31:Sp}(d29:Def P w K mg base "_law_e_refused" 18 ["way","table"] p31){p32:Sp}(d30:Def P w K mg base "_law_e_sum" 1 ["table","told"] p32){p33:Sp}(d31:Def P w K mg base "is_round" 3 ["table","thing"] p33){p34:Sp}(d32:Def P w K mg base "shortest" 4 ["table"] p34){p35:Sp}(d33:Def P w K mg base "_law_e_near_tree" 4 ["pen"] p35){p36:Sp}(d34:Def P w K mg base "_law_e_pen" 1 ["script"] p36){p37:Sp}(d35:Def P w K mg base "_law_e_right" 19 ["table"] p37)
def pC (K:aa) : TS:=(aT (dG (rB (tCB (aFh K) (aC (aF 0) (aC (tC (.ty "int")) aR))) (aFz (tCB (aFh K) (aC (aF 0) (aC (tC (.ty "bool")) aR)))))) aQ)
def wJ : OkN P w K mg base "is_whole" (top 11) 1 ["thing"] ["thing"] (pC K):=okN λ_ _ _ _ _ _ _ nd hr=>(aB (bF (lI (aN (eX (K:=K) rfl) rfl B.isi gC (aA (pv 0) (aA (iL (v := .ty "int") rfl B.int mI rfl) aE))) (iS (aEH (aN (eX (K:=K) rfl) rfl B.isi gC (aA (pv 0) (aA (iL (v := .ty "bool") rfl B.bool aAS rfl) aE))))))) aH)
def lD (K:aa) (p0:Sp):TS:=(aT (dG (rB (tCB (aFh K) (aC (aF 0) (aC (tC (.ty "tuple")) aR))) (tCB (aJM K) (aC (cU [none] (mS K (aF 0)) (aI 0) [] λacc=>(cP (bI p0 [] E0 (aC (aF 0) aR)) acc)) aR)))) aQ)
def qE : OkN P w K mg base "are_wholes" (top 12) 2 ["thing"] ["thing"] (lD K p0):=okN λ_ _ _ _ _ _ _ nd hr=>(aB (bF (lI (aN (eX (K:=K) rfl) rfl B.isi gC (aA (pv 0) (aA (iL (v := .ty "tuple") rfl B.tuple cH rfl) aE))) (iS (aN (sJ (K:=K) rfl rfl) rfl B.all aFe (cA (cR (N':=["part"]) (ix:=[none]) rfl rfl rfl (cQ (K:=K) rfl (pv 0)) (λ_ _ _=>(aP (i:=0) (show(["part"]:List Str).Nodup from by decide+kernel) rfl (Or.inl rfl))) (λ_ _ _ => .nil) (λ_ _ _ _=>(bZ rfl (aZ (d0.mono (by decide)) hr rfl (aA (pv 0) aE)) rfl))) aE))))) aH)
def sX (K:aa) : TS:=(aT (dG (tCB (aFb K) (aC (cU [none,none,some 1] (mS K (aF 0)) (tD K 2 (cK (aI 0) (cK (aI 1) vG))) [(cF (tOp (aJt K false) (aF 2) (gX (aC (aF 0) (aC (aF 1) aR)))))] λacc=>(cP (tOp vN (tOp (bK K) (aF 0) (aF 1)) (aF 2)) acc)) aR))) aQ)
def aAC : OkN P w K mg base "tied_to" (top 13) 1 ["ties","place"] ["ties","place"] (sX K):=okN λ_ _ _ _ _ _ _ nd hr=>(aB (bF (aN (wP (K:=K) rfl) rfl B.sorted fH (cA (cR (N':=["i","j","place"]) (ix:=[none,none,some 1]) rfl rfl rfl (cQ (K:=K) rfl (pv 0)) (λ_ _ _=>(dD (K:=K) rfl rfl (bD (aP (i:=0) (show(["i","j","place"]:List Str).Nodup from by decide+kernel) rfl (Or.inl rfl)) (bD (aP (i:=1) (show(["i","j","place"]:List Str).Nodup from by decide+kernel) rfl (Or.inl rfl)) dB)))) (λ_ _ _=>(.cons (bH (aBG (K:=K) rfl hr) (pv 2) (cC (aA (pv 0) (aA (pv 1) aE))) rfl) .nil)) (λ_ _ _ _=>(bZ rfl (bA iA (bA (bB (K:=K) rfl) (pv 0) (pv 1)) (pv 2)) rfl))) aE))) aH)
def jA (K:aa) (p1:Sp) (p12:Sp):TS:=(aT (bU (rS (aC (aF 1) aR)) (aI 3)) (aT (iQ (mS K (bI p1 [] E0 (aC (aF 0) (aC (aF 1) aR)))) (aI 4) (aT (gP (cF (tOp (aAc K) (aF 4) (aF 2))) (aT (oG (tBM K "list" (wV K) (aF 3) (aC (bI p12 [] E0 (aC (aF 0) (aC (aF 4) (aC (aF 1) aR)))) aR))) aQ) aQ) aQ)) (aT (dG (aF 3)) aQ)))
def oM {k:Nat} (hk:1<=k) {p12:Sp} (d12:Def P w K mg base "walked_from" k ["ties","place","before"] p12):OkN P w K mg base "walked_from" (top 14) (k+1) ["ties","place","before","found","tied"] ["ties","place","before"] (jA K p1 p12):=okN λ_ _ _ _ _ _ _ nd hr=>(aB (aW (i:=3) nd rfl (.inl rfl) (dS (aA (pv 1) aE))) (aB (cV dm rfl (cQ (K:=K) rfl (aZ (d1.mono (cg (by decide) hk)) hr rfl (aA (pv 0) (aA (pv 1) aE)))) (aP (i:=4) nd rfl (Or.inl rfl)) (aB (dH (bH (lB (K:=K) rfl hr) (pv 4) (pv 2) (bG _)) (aB (gE (pN (K:=K) rfl i6 PySem.F.slot_list_extend PySem.F.type_list_extend (aAt (K:=K) rfl) (pv 3) (aX (aZ (d12.mono (ay _)) hr rfl (aA (pv 0) (aA (pv 4) (aA (pv 1) aE)))) aE))) aH) aH) aH)) (aB (bF (pv 3)) aH)))
def yE (K:aa) (p2:Sp):TS:=(aT (bU (bI p2 [] E0 (aC (aF 0) (aC (aF 1) aR))) (aI 2)) (aT (gP (cF (tOp yLt (aF 1) (tC (.int 0)))) (aT (bU (tUn aHb (aF 2)) (aI 2)) aQ) aQ) (aT (dG (gX (aC (tOp aCV (aF 0) (aF 2)) (aC (tOp aCV (aF 1) (aF 2)) aR)))) aQ)))
def aBx : OkN P w K mg base "lowest" (top 16) 2 ["top","bottom","measure"] ["top","bottom"] (yE K p2):=okN λ_ _ _ _ _ _ _ nd hr=>(aB (aW (i:=2) nd rfl (.inl rfl) (aZ (d2.mono (by decide)) hr rfl (aA (pv 0) (aA (pv 1) aE)))) (aB (dH (bH aCe (pv 1) aJ (bG _)) (aB (aW (i:=2) nd rfl (.inl rfl) (aDJ xZ (pv 2))) aH) aH) (aB (bF (cC (cG (bA mF (pv 0) (pv 2)) (cG (bA mF (pv 1) (pv 2)) aE)))) aH)))
def fW (K:aa) : TS:=(aT (bU (tCB aJT (aC (aF 0) aR)) (aI 0)) (aT (bU (tCB aJT (aC (aF 1) aR)) (aI 1)) (aT (pQ (cF (tOp yGt (aF 1) (tC (.int 0)))) (aT (bU (tOp sI (aF 0) (aF 1)) (aI 2)) (aT (bU (aF 1) (aI 0)) (aT (bU (aF 2) (aI 1)) aQ)))) (aT (dG (aF 0)) aQ))))
def kK : OkN P w K mg base "common_measure" (top 17) 1 ["one","other","left"] ["one","other"] (fW K):=okN λ_ _ _ _ _ _ _ nd hr=>(aB (aW (i:=0) nd rfl (.inl rfl) (aN tQ rfl B.abs aEn (aA (pv 0) aE))) (aB (aW (i:=1) nd rfl (.inl rfl) (aN tQ rfl B.abs aEn (aA (pv 1) aE))) (aB (jJ dm (bH lO (pv 1) aJ (bG _)) (aB (aW (i:=2) nd rfl (.inl rfl) (bA gD (pv 0) (pv 1))) (aB (aW (i:=0) nd rfl (.inl rfl) (pv 1)) (aB (aW (i:=1) nd rfl (.inl rfl) (pv 2)) aH)))) (aB (bF (pv 0)) aH))))
def uC (K:aa) : TS:=(aT (bU (tCB (lZ K) (aC (aF 0) aR)) (aI 1)) (aT (dG (tCB (aJM K) (aC (cU [none,none,some 0] (cX (aC (aF 1) aR)) (aI 0) [] λacc=>(iQ (cX (aC (aF 0) aR)) (aI 1) (fV [] (cP (tOp (nG K) (tOp (bO K) (tOp (bO K) (aF 2) (aF 0)) (aF 1)) (tOp (bO K) (tOp (bO K) (aF 2) (aF 1)) (aF 0))) acc)))) aR))) aQ))
def aAz : OkN P w K mg base "is_even" (top 19) 1 ["table","many"] ["table"] (uC K):=okN λ_ _ _ _ _ _ _ nd hr=>(aB (aW (i:=1) nd rfl (.inl rfl) (aN (bN (K:=K) rfl) rfl B.len cO (aA (pv 0) aE))) (aB (bF (aN (sJ (K:=K) rfl rfl) rfl B.all aFe (cA (cR (N':=["i","j","table"]) (ix:=[none,none,some 0]) rfl rfl rfl (bL rfl B.range (aA (pv 1) aE)) (λ_ _ _=>(aP (i:=0) (show(["i","j","table"]:List Str).Nodup from by decide+kernel) rfl (Or.inl rfl))) (λ_ _ _ => .nil) (λ_ _ _ _=>(rK rfl rfl rfl (λ_ h=>by first | (cases h;rfl) | cases h) (bL rfl B.range (aA (pv 0) aE)) (aP (i:=1) (show(["i","j","table"]:List Str).Nodup from by decide+kernel) rfl (Or.inl rfl)) .nil (bZ rfl (cN (cY (K:=K) rfl hr) (aY (aM (K:=K) rfl) (aY (aM (K:=K) rfl) (pv 2) (pv 0) (λ_ _=>rfl)) (pv 1) (λ_ _=>rfl)) (aY (aM (K:=K) rfl) (aY (aM (K:=K) rfl) (pv 2) (pv 1) (λ_ _=>rfl)) (pv 0) (λ_ _=>rfl)) (bG _)) rfl)))) aE))) aH))
def pP (K:aa) (p3:Sp):TS:=(aT (gP (aEL (tB (bI p3 [] E0 (aC (aF 1) aR)))) (aT (dG (tC (.bl false))) aQ) aQ) (aT (dG (rB (tOp (nG K) (tSl (aHe K) (aF 1) kQ (aAr (tC (.int 1)))) (gX (aC (tC (.int 0)) aR))) (tOp (nG K) (tCB (kP K) (aC (aF 1) aR)) (tCB (tK K) (aC (tCB aKi (aC (tCB (lZ K) (aC (aF 0) aR)) aR)) aR))))) aQ))
def vX : OkN P w K mg base "is_round" (top 20) 3 ["table","thing"] ["table","thing"] (pP K p3):=okN λ_ _ _ _ _ _ _ nd hr=>(aB (dH (pT (jH (aZ (d3.mono (by decide)) hr rfl (aA (pv 1) aE)))) (aB (bF nH) aH) aH) (aB (bF (lI (cN (cY (K:=K) rfl hr) (iX (aCJ (K:=K) rfl) (pv 1) nY (mK aJ)) (cC (aS aJ aE)) (bG _)) (iS (cN (cY (K:=K) rfl hr) (aN (eN (K:=K) rfl) rfl B.sorted fH (aA (pv 1) aE)) (bE (fF (K:=K) rfl rfl) rfl B.list nE (aX (bE tN rfl B.range xG (aX (aN (bN (K:=K) rfl) rfl B.len cO (aA (pv 0) aE)) aE)) aE)) (bG _))))) aH))
def xJ (K:aa) : TS:=(aT (bU (tOp (bK K) (tSl (aHe K) (aF 1) (aAr (tC (.int 1))) kQ) (tSl (aHe K) (aF 1) kQ (aAr (tC (.int 1))))) (aI 2)) (aT (dG (tCB (aKk K) (aC (cU [none,none,some 0] (aJG K (aC (aF 1) (aC (aF 2) aR))) (tD K 2 (cK (aI 0) (cK (aI 1) vG))) [] λacc=>(cP (tOp (bO K) (tOp (bO K) (aF 2) (aF 0)) (aF 1)) acc)) aR))) aQ))
def aBK : OkN P w K mg base "length" (top 21) 1 ["table","round_","followers"] ["table","round_"] (xJ K):=okN λ_ _ _ _ _ _ _ nd hr=>(aB (aW (i:=2) nd rfl (.inl rfl) (bA (bB (K:=K) rfl) (iX (aCJ (K:=K) rfl) (pv 1) (mK aJ) nY) (iX (aCJ (K:=K) rfl) (pv 1) nY (mK aJ)))) (aB (bF (aN (uO (K:=K) rfl rfl) rfl B.sum aEG (cA (cR (N':=["one","other","table"]) (ix:=[none,none,some 0]) rfl rfl rfl (aFY (K:=K) rfl rfl B.zip (aA (pv 1) (aA (pv 2) aE))) (λ_ _ _=>(dD (K:=K) rfl rfl (bD (aP (i:=0) (show(["one","other","table"]:List Str).Nodup from by decide+kernel) rfl (Or.inl rfl)) (bD (aP (i:=1) (show(["one","other","table"]:List Str).Nodup from by decide+kernel) rfl (Or.inl rfl)) dB)))) (λ_ _ _ => .nil) (λ_ _ _ _=>(bZ rfl (aY (aM (K:=K) rfl) (aY (aM (K:=K) rfl) (pv 2) (pv 0) (λ_ _=>rfl)) (pv 1) (λ_ _=>rfl)) rfl))) aE))) aH))
def nO (K:aa) : TS:=(aT (dG (cU [none,none,none] (mS K (aF 0)) (tD K 3 (cK (aI 0) (cK (aI 1) (cK (aI 2) vG)))) [] λacc=>(cP (gX (aC (aF 0) (aC (aF 1) aR))) acc))) aQ)
def sM : OkN P w K mg base "bare_ties" (top 23) 1 ["drawn"] ["drawn"] (nO K):=okN λ_ _ _ _ _ _ _ nd hr=>(aB (bF (cR (N':=["i","j","way"]) (ix:=[none,none,none]) rfl rfl rfl (cQ (K:=K) rfl (pv 0)) (λ_ _ _=>(dD (K:=K) rfl rfl (bD (aP (i:=0) (show(["i","j","way"]:List Str).Nodup from by decide+kernel) rfl (Or.inl rfl)) (bD (aP (i:=1) (show(["i","j","way"]:List Str).Nodup from by decide+kernel) rfl (Or.inl rfl)) (bD (aP (i:=2) (show(["i","j","way"]:List Str).Nodup from by decide+kernel) rfl (Or.inl rfl)) dB))))) (λ_ _ _ => .nil) (λ_ _ _ _=>(bZ rfl (cC (aA (pv 0) (aA (pv 1) aE))) rfl)))) aH)
def hX (K:aa) (c0:Addr) (E:XK) (p4:Sp) (p5:Sp) (p6:Sp):TS:=(aT (gP (aEL (tB (bI p6 [] E0 (aC (aF 0) aR)))) (aT (xP c0 E) aQ) aQ) (aT (bU (bI p4 [] E0 (aC (aF 0) aR)) (aI 1)) (aT (gP (cF (tOp vO (aF 1) (tC .non))) (aT (dG (gX (aC (tC (.str "four")) (aC (aF 1) aR)))) aQ) aQ) (aT (dG (gX (aC (tC (.str "tree")) (aC (bI p5 [] E0 (aC (aF 0) aR)) aR)))) aQ))))
def mO : OkX P w K mg base "tree_or_four" (top 24) 4 ["table","four"] ["table"] (λE=>hX K c0 E p4 p5 p6):=okX λ_ _ _ _ _ _ E nd hr=>(aB (dH (PT.nox (pT (jH (aZ (d6.mono (by decide)) hr rfl (aA (pv 0) aE))))) (aB (uT (K:=K) rfl pO rfl rfl e0 x0) aH) aH) (aB (PS.nox (aW (i:=1) nd rfl (.inl rfl) (aZ (d4.mono (by decide)) hr rfl (aA (pv 0) aE)))) (aB (PS.nox (dH (bH tV (pv 1) yI (bG _)) (aB (bF (cC (aS dM (aA (pv 1) aE)))) aH) aH)) (aB (PS.nox (bF (cC (aS dM (aX (aZ (d5.mono (by decide)) hr rfl (aA (pv 0) aE)) aE))))) aH))))
def gL (K:aa) (p7:Sp):TS:=(aT (bU (tCB (lZ K) (aC (aF 0) aR)) (aI 1)) (aT (bU (cU [none,none,none,none,some 1,some 0] (cX (aC (aF 1) aR)) (aI 0) [] λacc=>(iQ (cX (aC (aF 0) aR)) (aI 1) (fV [] (iQ (cX (aC (aF 4) aR)) (aI 2) (fV [] (iQ (cX (aC (tOp (bK K) (aF 2) (tC (.int 1))) aR)) (aI 3) (fV [(tB (bI p7 [] E0 (aC (aF 5) (aC (aF 0) (aC (aF 1) (aC (aF 2) (aC (aF 3) aR)))))))] (cP (gX (aC (aF 0) (aC (aF 1) (aC (aF 2) (aC (aF 3) aR))))) acc)))))))) (aI 2)) (aT (dG (tIf (aJd K (aF 2)) (tOp (bO K) (aF 2) (tC (.int 0))) (tC .non))) aQ)))
def lQ : OkN P w K mg base "breaking_four" (top 25) 2 ["table","many","found"] ["table"] (gL K p7):=okN λ_ _ _ _ _ _ _ nd hr=>(aB (aW (i:=1) nd rfl (.inr rfl) (aN (bN (K:=K) rfl) rfl B.len cO (aA (pv 0) aE))) (aB (dF (i:=2) nd rfl (Or.inl rfl) (N':=["i","j","k","l","many","table"]) (ix:=[none,none,none,none,some 1,some 0]) rfl rfl rfl (bL rfl B.range (aA (pv 1) aE)) (λ_ _ _=>(aP (i:=0) (show(["i","j","k","l","many","table"]:List Str).Nodup from by decide+kernel) rfl (Or.inl rfl))) (λ_ _ _ => .nil) (λ_ _ _ _=>(rK rfl rfl rfl (λ_ h=>by first | (cases h;rfl) | cases h) (bL rfl B.range (aA (pv 0) aE)) (aP (i:=1) (show(["i","j","k","l","many","table"]:List Str).Nodup from by decide+kernel) rfl (Or.inl rfl)) .nil (rK rfl rfl rfl (λ_ h=>by first | (cases h;rfl) | cases h) (bL rfl B.range (aA (pv 4) aE)) (aP (i:=2) (show(["i","j","k","l","many","table"]:List Str).Nodup from by decide+kernel) rfl (Or.inl rfl)) .nil (rK rfl rfl rfl (λ_ h=>by first | (cases h;rfl) | cases h) (bL rfl B.range (cG (bA (bB (K:=K) rfl) (pv 2) aJ) aE)) (aP (i:=3) (show(["i","j","k","l","many","table"]:List Str).Nodup from by decide+kernel) rfl (Or.inl rfl)) (.cons (jH (aZ (d7.mono (by decide)) hr rfl (aA (pv 5) (aA (pv 0) (aA (pv 1) (aA (pv 2) (aA (pv 3) aE))))))) .nil) (bZ rfl (cC (aA (pv 0) (aA (pv 1) (aA (pv 2) (aA (pv 3) aE))))) rfl)))))) (aB (bF (mB (aBh (K:=K) rfl (pv 2) (λ_=>rfl)) (aY (aM (K:=K) rfl) (pv 2) aJ (λ_ _=>rfl)) yI)) aH)))
def gI (K:aa) : TS:=(aT (bU (tOp (bK K) (tOp (bO K) (tOp (bO K) (aF 0) (aF 1)) (aF 2)) (tOp (bO K) (tOp (bO K) (aF 0) (aF 3)) (aF 4))) (aI 5)) (aT (dG (rB (tOp yGt (aF 5) (tOp (bK K) (tOp (bO K) (tOp (bO K) (aF 0) (aF 1)) (aF 3)) (tOp (bO K) (tOp (bO K) (aF 0) (aF 2)) (aF 4)))) (tOp yGt (aF 5) (tOp (bK K) (tOp (bO K) (tOp (bO K) (aF 0) (aF 1)) (aF 4)) (tOp (bO K) (tOp (bO K) (aF 0) (aF 2)) (aF 3)))))) aQ))
def rR : OkN P w K mg base "does_break" (top 26) 1 ["table","i","j","k","l","both"] ["table","i","j","k","l"] (gI K):=okN λ_ _ _ _ _ _ _ nd hr=>(aB (aW (i:=5) nd rfl (.inl rfl) (bA (bB (K:=K) rfl) (aY (aM (K:=K) rfl) (aY (aM (K:=K) rfl) (pv 0) (pv 1) (λ_ _=>rfl)) (pv 2) (λ_ _=>rfl)) (aY (aM (K:=K) rfl) (aY (aM (K:=K) rfl) (pv 0) (pv 3) (λ_ _=>rfl)) (pv 4) (λ_ _=>rfl)))) (aB (bF (lI (cN lO (pv 5) (bA (bB (K:=K) rfl) (aY (aM (K:=K) rfl) (aY (aM (K:=K) rfl) (pv 0) (pv 1) (λ_ _=>rfl)) (pv 3) (λ_ _=>rfl)) (aY (aM (K:=K) rfl) (aY (aM (K:=K) rfl) (pv 0) (pv 2) (λ_ _=>rfl)) (pv 4) (λ_ _=>rfl))) (bG _)) (iS (cN lO (pv 5) (bA (bB (K:=K) rfl) (aY (aM (K:=K) rfl) (aY (aM (K:=K) rfl) (pv 0) (pv 1) (λ_ _=>rfl)) (pv 4) (λ_ _=>rfl)) (aY (aM (K:=K) rfl) (aY (aM (K:=K) rfl) (pv 0) (pv 2) (λ_ _=>rfl)) (pv 3) (λ_ _=>rfl))) (bG _))))) aH))
def aCM (K:aa) (p8:Sp) (p9:Sp):TS:=(aT (bU aER (aI 1)) (aT (bU (aFw [((tC (.int 0)),(tC (.int 0)))]) (aI 2)) (aT (iQ (aAB (aC (tC (.int 1)) (aC (tCB (lZ K) (aC (aF 0) aR)) aR))) (aI 3) (aT (oG (bI p8 [] E0 (aC (aF 0) (aC (aF 1) (aC (aF 2) (aC (aF 3) aR)))))) aQ)) (aT (bU (cU [none,none,some 2] (aBU (aF 1)) (tD K 2 (cK (aI 0) (cK (aI 1) vG))) [] λacc=>(cP (gX (aC (tCB tX (aC (aF 0) (aC (aF 1) aR))) (aC (tCB vP (aC (aF 0) (aC (aF 1) aR))) (aC (bI p9 [] E0 (aC (tOp vN (iJ (aF 2) (aF 0)) (iJ (aF 2) (aF 1))) (aC (tC (.int 2)) aR))) aR)))) acc)) (aI 4)) (aT (dG (tCB (cW K) (aC (tCB (xH K) (aC (aF 4) aR)) aR))) aQ)))))
def aFX : OkN P w K mg base "draw" (top 27) 3 ["table","above","depths","place","ties"] ["table"] (aCM K p8 p9):=okN λ_ _ _ _ _ _ _ nd hr=>(aB (aW (i:=1) nd rfl (.inl rfl) aDV) (aB (aW (i:=2) nd rfl (.inr rfl) (aAM (xM aJ aJ aBQ) rfl rfl (by intro h;cases h) (by decide))) (aB (cV dm rfl (fZ rfl B.range (aS aJ (aX (aN (bN (K:=K) rfl) rfl B.len cO (aA (pv 0) aE)) aE))) (aP (i:=3) nd rfl (Or.inl rfl)) (aB (gE (aZ (d8.mono (by decide)) hr rfl (aA (pv 0) (aA (pv 1) (aA (pv 2) (aA (pv 3) aE)))))) aH)) (aB (dF (i:=4) nd rfl (Or.inl rfl) (N':=["place","over","depths"]) (ix:=[none,none,some 2]) rfl rfl rfl (aBe (pv 1)) (λ_ _ _=>(dD (K:=K) rfl rfl (bD (aP (i:=0) (show(["place","over","depths"]:List Str).Nodup from by decide+kernel) rfl (Or.inl rfl)) (bD (aP (i:=1) (show(["place","over","depths"]:List Str).Nodup from by decide+kernel) rfl (Or.inl rfl)) dB)))) (λ_ _ _ => .nil) (λ_ _ _ _=>(bZ rfl (cC (aX (aN (gU rfl) rfl B.min pD (aA (pv 0) (aA (pv 1) aE))) (aX (aN (kR rfl) rfl B.max xA (aA (pv 0) (aA (pv 1) aE))) (aX (aZ (d9.mono (by decide)) hr rfl (cG (bA iA (dR (fM hr) (pv 2) (pv 0) (λ_ _=>rfl)) (dR (fM hr) (pv 2) (pv 1) (λ_ _=>rfl))) (aS aJ aE))) aE)))) rfl))) (aB (bF (bE (bV (K:=K) rfl) rfl B.tuple cH (aX (aN (nJ (K:=K) rfl hr) rfl B.sorted fH (aA (pv 4) aE)) aE))) aH)))))
def aEN (K:aa) : TS:=(aT (bU (tCB (aFI K) (aC (cU [none,some 0,some 3] (cX (aC (aF 3) aR)) (aI 0) [] λacc=>(cP (gX (aC (tOp vN (tOp (bK K) (tOp (bO K) (tOp (bO K) (aF 1) (tC (.int 0))) (aF 2)) (tOp (bO K) (tOp (bO K) (aF 1) (tC (.int 0))) (aF 0))) (tOp (bO K) (tOp (bO K) (aF 1) (aF 0)) (aF 2))) (aC (aF 0) aR))) acc)) aR)) (tD K 2 (cK (aI 4) (cK (aI 5) vG)))) (aT (bU (tOp aAq (tC (.int 2)) (tOp (bO K) (tOp (bO K) (aF 0) (tC (.int 0))) (aF 3))) (aI 6)) (aT (pQ (aHk (cF (tOp yGt (iJ (aF 2) (aF 5)) (aF 4))) (cF (tOp yGe (iJ (aF 2) (iJ (aF 1) (aF 5))) (aF 4)))) (aT (bU (iJ (aF 1) (aF 5)) (aI 5)) aQ)) (aT (gP (cF (tOp yGt (iJ (aF 2) (aF 5)) (aF 4))) (aT (bU (tIf (cF (tOp (nG K) (aF 6) (aF 4))) (aF 3) (tOp vN (tOp (bK K) (tCB (lZ K) (aC (aF 0) aR)) (tCB aIV (aC (aF 2) aR))) (aF 3))) (aI 7)) (aT (lU (aF 1) (aF 7) (iJ (aF 1) (aF 5))) (aT (lU (aF 2) (aF 7) (aF 4)) (aT (lU (aF 1) (aF 5) (aF 7)) (aT (bU (aF 7) (aI 5)) aQ))))) aQ) (aT (gP (cF (tOp (aAc K) (aF 5) (aF 3))) (aT (lU (aF 1) (aF 3) (aF 5)) (aT (lU (aF 2) (aF 3) (aF 6)) aQ)) aQ) aQ)))))
def aGb : OkN P w K mg base "hang" (top 28) 1 ["table","above","depths","place","fork","spot","depth","joint"] ["table","above","depths","place"] (aEN K):=okN λ_ _ _ _ _ _ _ nd hr=>(aB (eY (aN (aAw (K:=K) rfl hr rfl) rfl B.max xA (cA (cR (N':=["other","table","place"]) (ix:=[none,some 0,some 3]) rfl rfl rfl (bL rfl B.range (aA (pv 3) aE)) (λ_ _ _=>(aP (i:=0) (show(["other","table","place"]:List Str).Nodup from by decide+kernel) rfl (Or.inl rfl))) (λ_ _ _ => .nil) (λ_ _ _ _=>(bZ rfl (cC (cG (bA iA (bA (bB (K:=K) rfl) (aY (aM (K:=K) rfl) (aY (aM (K:=K) rfl) (pv 1) aJ (λ_ _=>rfl)) (pv 2) (λ_ _=>rfl)) (aY (aM (K:=K) rfl) (aY (aM (K:=K) rfl) (pv 1) aJ (λ_ _=>rfl)) (pv 0) (λ_ _=>rfl))) (aY (aM (K:=K) rfl) (aY (aM (K:=K) rfl) (pv 1) (pv 0) (λ_ _=>rfl)) (pv 2) (λ_ _=>rfl))) (aA (pv 0) aE))) rfl))) aE)) (dD (K:=K) rfl rfl (bD (aP (i:=4) nd rfl (Or.inl rfl)) (bD (aP (i:=5) nd rfl (Or.inl rfl)) dB)))) (aB (aW (i:=6) nd rfl (.inl rfl) (bA qF aJ (aY (aM (K:=K) rfl) (aY (aM (K:=K) rfl) (pv 0) aJ (λ_ _=>rfl)) (pv 3) (λ_ _=>rfl)))) (aB (jJ dm (PW.pt (xQ (bH lO (dR (fM hr) (pv 2) (pv 5) (λ_ _=>rfl)) (pv 4) (bG _)) (qB (bH aFu (dR (fM hr) (pv 2) (dR (fM hr) (pv 1) (pv 5) (λ_ _=>rfl)) (λ_ _=>rfl)) (pv 4) (bG _))))) (aB (aW (i:=5) nd rfl (.inl rfl) (dR (fM hr) (pv 1) (pv 5) (λ_ _=>rfl))) aH)) (aB (dH (bH lO (dR (fM hr) (pv 2) (pv 5) (λ_ _=>rfl)) (pv 4) (bG _)) (aB (aW (i:=7) nd rfl (.inl rfl) (mB (bH (cY (K:=K) rfl hr) (pv 6) (pv 4) (bG _)) (pv 3) (bA iA (bA (bB (K:=K) rfl) (aN (bN (K:=K) rfl) rfl B.len cO (aA (pv 0) aE)) (aN aAV rfl B.len cO (aA (pv 2) aE))) (pv 3)))) (aB (kL (fM hr) (pv 1) (pv 7) (dR (fM hr) (pv 1) (pv 5) (λ_ _=>rfl)) rfl) (aB (kL (fM hr) (pv 2) (pv 7) (pv 4) rfl) (aB (kL (fM hr) (pv 1) (pv 5) (pv 7) rfl) (aB (aW (i:=5) nd rfl (.inl rfl) (pv 7)) aH))))) aH) (aB (dH (bH (lB (K:=K) rfl hr) (pv 5) (pv 3) (bG _)) (aB (kL (fM hr) (pv 1) (pv 3) (pv 5) rfl) (aB (kL (fM hr) (pv 2) (pv 3) (pv 6) rfl) aH)) aH) aH)))))
def kX (K:aa) (c1:Addr) (E:XK) (p10:Sp) (p11:Sp) (p12:Sp) (p13:Sp):TS:=(aT (bU (bI p13 [] E (aC (aF 0) aR)) (tD K 2 (cK (aI 1) (cK (aI 2) vG)))) (aT (gP (cF (tOp (nG K) (aF 1) (tC (.str "four")))) (aT (xP c1 E) aQ) aQ) (aT (bU (bI p12 [] E0 (aC (bI p10 [] E0 (aC (aF 2) aR)) (aC (tC (.int 0)) (aC (tC .non) aR)))) (aI 3)) (aT (bU (tCB (cW K) (aC (cU [none,some 0] (mS K (aF 3)) (aI 0) [(cF (tOp yLt (aF 0) (tCB (lZ K) (aC (aF 1) aR))))] λacc=>(cP (aF 0) acc)) aR)) (aI 4)) (aT (dG (gX (aC (bI p11 [] E0 (aC (aF 0) (aC (aF 4) aR))) (aC (aF 4) aR)))) aQ)))))
def rX : OkX P w K mg base "tree_round" (top 29) 17 ["table","word","found","places","round_"] ["table"] (λE=>kX K c1 E p10 p11 p12 p13):=okX λ_ _ _ _ _ _ E nd hr=>(aB (eY (qV (y0.mono (by decide)) hr rfl aAl (aA (pv 0) aE)) (dD (K:=K) rfl rfl (bD (aP (i:=1) nd rfl (Or.inl rfl)) (bD (aP (i:=2) nd rfl (Or.inl rfl)) dB)))) (aB (dH (PT.nox (bH (cY (K:=K) rfl hr) (pv 1) dM (bG _))) (aB (uT (K:=K) rfl pO rfl rfl e1 x1) aH) aH) (aB (PS.nox (aW (i:=3) nd rfl (.inl rfl) (aZ (d12.mono (by decide)) hr rfl (aX (aZ (d10.mono (by decide)) hr rfl (aA (pv 2) aE)) (aS aJ (aS yI aE)))))) (aB (PS.nox (aW (i:=4) nd rfl (.inl rfl) (bE (bV (K:=K) rfl) rfl B.tuple cH (cA (cR (N':=["place","table"]) (ix:=[none,some 0]) rfl rfl rfl (cQ (K:=K) rfl (pv 3)) (λ_ _ _=>(aP (i:=0) (show(["place","table"]:List Str).Nodup from by decide+kernel) rfl (Or.inl rfl))) (λ_ _ _=>(.cons (bH aCe (pv 0) (aN (bN (K:=K) rfl) rfl B.len cO (aA (pv 1) aE)) (bG _)) .nil)) (λ_ _ _ _=>(bZ rfl (pv 0) rfl))) aE)))) (aB (PS.nox (bF (cC (aX (aZ (d11.mono (by decide)) hr rfl (aA (pv 0) (aA (pv 4) aE))) (aA (pv 4) aE))))) aH)))))
def oW (K:aa) (c2:Addr) (p14:Sp) (p15:Sp):TS:=(aT (bU (bI p14 [] E0 (aC (aF 0) aR)) (aI 1)) (aT (bU (cU [none,none,none] (aEO (aF 1)) (tD K 2 (cK (tD K 2 (cK (aI 0) (cK (aI 1) vG))) (cK (aI 2) vG))) [] λacc=>(cP (gX (aC (aF 0) (aC (aF 1) (aC (aF 2) aR)))) acc)) (aI 2)) (aT (dG (gX (aC (aGs K (aF 1) (tC (.ref c2))) (aC (bI p15 [] E0 (aC (aF 0) (aC (aF 1) aR))) (aC (aF 2) aR))))) aQ)))
def wF : OkN P w K mg base "shortest" (top 32) 4 ["table","rests","floors"] ["table"] (oW K c2 p14 p15):=okN λ_ _ _ _ _ _ _ nd hr=>(aB (aW (i:=1) nd rfl (.inl rfl) (aZ (d13.mono (by decide)) hr rfl (aA (pv 0) aE))) (aB (dF (i:=2) nd rfl (Or.inl rfl) (N':=["some","last","rest"]) (ix:=[none,none,none]) rfl rfl rfl (aDC (pv 1)) (λ_ _ _=>(dD (K:=K) rfl rfl (bD (dD (K:=K) rfl rfl (bD (aP (i:=0) (show(["some","last","rest"]:List Str).Nodup from by decide+kernel) rfl (Or.inl rfl)) (bD (aP (i:=1) (show(["some","last","rest"]:List Str).Nodup from by decide+kernel) rfl (Or.inl rfl)) dB))) (bD (aP (i:=2) (show(["some","last","rest"]:List Str).Nodup from by decide+kernel) rfl (Or.inl rfl)) dB)))) (λ_ _ _ => .nil) (λ_ _ _ _=>(bZ rfl (cC (aA (pv 0) (aA (pv 1) (aA (pv 2) aE)))) rfl))) (aB (bF (cC (cM (aAJ (K:=K) rfl (hu6 hr) (pv 1) (eV (v := .ref c2) rfl e2 rfl) (λ_ _=>rfl)) (aX (aZ (d14.mono (by decide)) hr rfl (aA (pv 0) (aA (pv 1) aE))) (aA (pv 2) aE))))) aH)))
def jR (K:aa) (p16:Sp) (p17:Sp):TS:=(aT (bU aET (aI 1)) (aT (iQ (aKu K (aC (bI p17 [] E0 (aC (tCB (lZ K) (aC (aF 0) aR)) aR)) aR)) (aI 2) (aT (iQ (mS K (aKH K (tSl (aHe K) (aF 2) (aAr (tC (.int 1))) kQ) (aF 2))) (aI 3) (aT (gP (cF (tOp (nG K) (tCB (lZ K) (aC (aF 2) aR)) (tCB (lZ K) (aC (aF 0) aR)))) (aT (aGA (aF 1) (gX (aC (aF 2) (aC (aF 3) aR))) (tOp (bO K) (tOp (bO K) (aF 0) (aF 3)) (tC (.int 0)))) aQ) (aT (aGA (aF 1) (gX (aC (aF 2) (aC (aF 3) aR))) (tOp (bO K) (tCB (aFC K) (aC (bI p16 [] E0 (aC (aF 0) (aC (aF 1) (aC (aF 2) (aC (aF 3) aR))))) aR)) (tC (.int 0)))) aQ)) aQ)) aQ)) (aT (dG (aF 1)) aQ)))
def oQ : OkN P w K mg base "least_rests" (top 33) 3 ["table","rests","some","last"] ["table"] (jR K p16 p17):=okN λ_ _ _ _ _ _ _ nd hr=>(aB (aW (i:=1) nd rfl (.inl rfl) aDo) (aB (cV dm rfl (aIs (K:=K) rfl rfl B.reversed (aX (aZ (d16.mono (by decide)) hr rfl (aX (aN (bN (K:=K) rfl) rfl B.len cO (aA (pv 0) aE)) aE)) aE)) (aP (i:=2) nd rfl (Or.inl rfl)) (aB (cV dm rfl (cQ (K:=K) rfl (aHI (K:=K) rfl (iX (aCJ (K:=K) rfl) (pv 2) (mK aJ) nY) (iS (pv 2)))) (aP (i:=3) nd rfl (Or.inl rfl)) (aB (dH (bH (cY (K:=K) rfl hr) (aN (bN (K:=K) rfl) rfl B.len cO (aA (pv 2) aE)) (aN (bN (K:=K) rfl) rfl B.len cO (aA (pv 0) aE)) (bG _)) (aB (aBO (hu6 hr) (pv 1) (cC (aA (pv 2) (aA (pv 3) aE))) (aY (aM (K:=K) rfl) (aY (aM (K:=K) rfl) (pv 0) (pv 3) (λ_ _=>rfl)) aJ (λ_ _=>rfl)) rfl) aH) (aB (aBO (hu6 hr) (pv 1) (cC (aA (pv 2) (aA (pv 3) aE))) (aY (aM (K:=K) rfl) (aN (pS (K:=K) rfl hr rfl) rfl B.min pD (aX (aZ (d15.mono (by decide)) hr rfl (aA (pv 0) (aA (pv 1) (aA (pv 2) (aA (pv 3) aE))))) aE)) aJ (λ_ _=>rfl)) rfl) aH)) aH)) aH)) (aB (bF (pv 1)) aH)))
def fE (K:aa) : TS:=(aT (bU (rS (aC (gX (aC (tC (.int 0)) aR)) aR)) (aI 1)) (aT (iQ (aAB (aC (tC (.int 1)) (aC (aF 0) aR))) (aI 2) (aT (bU (tOp (bK K) (aF 1) (cU [none,some 2] (mS K (aF 1)) (aI 0) [] λacc=>(cP (tOp (bK K) (aF 0) (gX (aC (aF 1) aR))) acc))) (aI 1)) aQ)) (aT (dG (aF 1)) aQ)))
def jB : OkN P w K mg base "parts_with_home" (top 34) 1 ["many","parts","place"] ["many"] (fE K):=okN λ_ _ _ _ _ _ _ nd hr=>(aB (aW (i:=1) nd rfl (.inl rfl) (dS (mC (cC (aS aJ aE)) aE))) (aB (cV dm rfl (fZ rfl B.range (aS aJ (aA (pv 0) aE))) (aP (i:=2) nd rfl (Or.inr rfl)) (aB (aW (i:=1) nd rfl (.inl rfl) (bA (bB (K:=K) rfl) (pv 1) (cR (N':=["some","place"]) (ix:=[none,some 2]) rfl rfl rfl (cQ (K:=K) rfl (pv 1)) (λ_ _ _=>(aP (i:=0) (show(["some","place"]:List Str).Nodup from by decide+kernel) rfl (Or.inl rfl))) (λ_ _ _ => .nil) (λ_ _ _ _=>(bZ rfl (bA (bB (K:=K) rfl) (pv 0) (cC (aA (pv 1) aE))) rfl))))) aH)) (aB (bF (pv 1)) aH)))
def yD (K:aa) : TS:=(aT (dG (tCB (cW K) (aC (tCB (kP K) (aC (tOp (bK K) (aF 0) (gX (aC (aF 1) aR))) aR)) aR))) aQ)
def aCh : OkN P w K mg base "joined" (top 35) 1 ["some","place"] ["some","place"] (yD K):=okN λ_ _ _ _ _ _ _ nd hr=>(aB (bF (bE (bV (K:=K) rfl) rfl B.tuple cH (aX (aN (eN (K:=K) rfl) rfl B.sorted fH (cG (bA (bB (K:=K) rfl) (pv 0) (cC (aA (pv 1) aE))) aE)) aE))) aH)
def jN (K:aa) : TS:=(aT (dG (cU [none,some 1] (cX (aC (tCB (lZ K) (aC (aF 0) aR)) aR)) (aI 0) [(cF (tOp (rIn K true) (aF 0) (aF 1)))] λacc=>(cP (aF 0) acc))) aQ)
def oD : OkN P w K mg base "places_left" (top 36) 1 ["table","some"] ["table","some"] (jN K):=okN λ_ _ _ _ _ _ _ nd hr=>(aB (bF (cR (N':=["place","some"]) (ix:=[none,some 1]) rfl rfl rfl (bL rfl B.range (aX (aN (bN (K:=K) rfl) rfl B.len cO (aA (pv 0) aE)) aE)) (λ_ _ _=>(aP (i:=0) (show(["place","some"]:List Str).Nodup from by decide+kernel) rfl (Or.inl rfl))) (λ_ _ _=>(.cons (bH (tI (K:=K) rfl) (pv 0) (pv 1) rfl) .nil)) (λ_ _ _ _=>(bZ rfl (pv 0) rfl)))) aH)
def yC (K:aa) (p18:Sp) (p19:Sp):TS:=(aT (dG (cU [none,some 0,some 3,some 1,some 2] (mS K (bI p19 [] E0 (aC (aF 0) (aC (aF 2) aR)))) (aI 0) [] λacc=>(cP (gX (aC (tOp (bK K) (tOp (bO K) (tOp (bO K) (aF 1) (aF 2)) (aF 0)) (aGs K (aF 3) (gX (aC (bI p18 [] E0 (aC (aF 4) (aC (aF 0) aR))) (aC (aF 0) aR))))) (aC (aF 0) aR))) acc))) aQ)
def aAL : OkN P w K mg base "onward" (top 37) 2 ["table","rests","some","last"] ["table","rests","some","last"] (yC K p18 p19):=okN λ_ _ _ _ _ _ _ nd hr=>(aB (bF (cR (N':=["place","table","last","rests","some"]) (ix:=[none,some 0,some 3,some 1,some 2]) rfl rfl rfl (cQ (K:=K) rfl (aZ (d18.mono (by decide)) hr rfl (aA (pv 0) (aA (pv 2) aE)))) (λ_ _ _=>(aP (i:=0) (show(["place","table","last","rests","some"]:List Str).Nodup from by decide+kernel) rfl (Or.inl rfl))) (λ_ _ _ => .nil) (λ_ _ _ _=>(bZ rfl (cC (cG (bA (bB (K:=K) rfl) (aY (aM (K:=K) rfl) (aY (aM (K:=K) rfl) (pv 1) (pv 2) (λ_ _=>rfl)) (pv 0) (λ_ _=>rfl)) (aAJ (K:=K) rfl (hu6 hr) (pv 3) (cC (aX (aZ (d17.mono (by decide)) hr rfl (aA (pv 4) (aA (pv 0) aE))) (aA (pv 0) aE))) (λ_ _=>rfl))) (aA (pv 0) aE))) rfl)))) aH)
def fT (K:aa) (p16:Sp):TS:=(aT (bU (gX (aC (tC (.int 0)) aR)) (aI 2)) (aT (pQ (cF (tOp yLt (tCB (lZ K) (aC (aF 2) aR)) (tCB (lZ K) (aC (aF 0) aR)))) (aT (bU (tCB (cW K) (aC (tCB (kP K) (aC (aF 2) aR)) aR)) (aI 3)) (aT (bU (tOp (bK K) (aF 2) (gX (aC (tOp (bO K) (tCB (aFC K) (aC (bI p16 [] E0 (aC (aF 0) (aC (aF 1) (aC (aF 3) (aC (tOp (bO K) (aF 2) (tUn aHb (tC (.int 1)))) aR))))) aR)) (tC (.int 1))) aR))) (aI 2)) aQ))) (aT (dG (aF 2)) aQ)))
def kN : OkN P w K mg base "round_by_rests" (top 38) 3 ["table","rests","gone","some"] ["table","rests"] (fT K p16):=okN λ_ _ _ _ _ _ _ nd hr=>(aB (aW (i:=2) nd rfl (.inl rfl) (cC (aS aJ aE))) (aB (jJ dm (bH aCe (aN (bN (K:=K) rfl) rfl B.len cO (aA (pv 2) aE)) (aN (bN (K:=K) rfl) rfl B.len cO (aA (pv 0) aE)) (bG _)) (aB (aW (i:=3) nd rfl (.inl rfl) (bE (bV (K:=K) rfl) rfl B.tuple cH (aX (aN (eN (K:=K) rfl) rfl B.sorted fH (aA (pv 2) aE)) aE))) (aB (aW (i:=2) nd rfl (.inl rfl) (bA (bB (K:=K) rfl) (pv 2) (cC (cM (aY (aM (K:=K) rfl) (aN (pS (K:=K) rfl hr rfl) rfl B.min pD (aX (aZ (d15.mono (by decide)) hr rfl (aA (pv 0) (aA (pv 1) (aA (pv 3) (cM (aY (aM (K:=K) rfl) (pv 2) (aDJ xZ aJ) (λ_ _=>rfl)) aE))))) aE)) aJ (λ_ _=>rfl)) aE)))) aH))) (aB (bF (pv 2)) aH)))
def lH (K:aa) : TS:=(aT (dG (rS (aC (tCB (tK K) (aC (tSl (aHe K) (aF 0) kQ (aAr (tC (.int 63)))) aR)) (aC (tC (.int 0)) (aC (tC (.int 0)) aR))))) aQ)
def qO : OkN P w K mg base "_law_e_pen" (top 40) 1 ["script"] ["script"] (lH K):=okN λ_ _ _ _ _ _ _ nd hr=>(aB (bF (dS (aX (bE (fF (K:=K) rfl rfl) rfl B.list nE (cM (iX (aCJ (K:=K) rfl) (pv 0) nY (mK aJ)) aE)) (aS aJ (aS aJ aE))))) aH)
def hZ (K:aa) : TS:=(aT (bU (tOp (bO K) (aF 0) (tC (.int 1))) (aI 1)) (aT (bU (tOp (bK K) (aF 1) (tC (.int 1))) (sF (aF 0) (tC (.int 1)) fY)) (aT (bU (tOp (bK K) (tOp eG (aF 1) (aF 1)) (tC (.int 5))) (aI 2)) (aT (gP (cF (tOp yLt (aF 1) (tCB (lZ K) (aC (tOp (bO K) (aF 0) (tC (.int 0))) aR)))) (aT (bU (tOp (bO K) (tOp (bO K) (aF 0) (tC (.int 0))) (aF 1)) (aI 2)) aQ) (aT (gP (cF (tOp yGt (tCB (lZ K) (aC (tOp (bO K) (aF 0) (tC (.int 0))) aR)) (tC (.int 0)))) (aT (bU (tOp (bK K) (aF 2) (tOp eG (tOp sI (tOp (bO K) (tOp (bO K) (aF 0) (tC (.int 0))) (tOp sI (tOp eG (aF 1) (tC (.int 3))) (tCB (lZ K) (aC (tOp (bO K) (aF 0) (tC (.int 0))) aR)))) (tC (.int 1000003))) (tOp (bK K) (aF 1) (tC (.int 1))))) (aI 2)) aQ) aQ) aQ)) (aT (gP (cF (tOp yGe (aF 2) (tOp aKy (tC (.int 10)) (tC (.int 18))))) (aT (dG (aF 2)) aQ) aQ) (aT (bU (tOp sI (tOp (bK K) (tOp (bK K) (tOp eG (tOp sI (aF 2) (tC (.int 2147483423))) (tC (.int 60013))) (tOp eG (aF 1) (tC (.int 40692)))) (tC (.int 17))) (tC (.int 2147483399))) (aI 3)) (aT (bU (tOp sI (tOp (bK K) (tOp (bK K) (tOp eG (aF 3) (aF 3)) (tOp eG (aF 1) (tC (.int 811)))) (tC (.int 3))) (tC (.int 2147483353))) (aI 4)) (aT (dG (tOp (bK K) (tOp eG (tOp (bK K) (aF 4) (tC (.int 2147483353))) (tC (.int 2147483353))) (tOp sI (tOp (bK K) (tOp eG (aF 4) (aF 4)) (aF 3)) (tC (.int 2147483353))))) aQ))))))))
def mY : OkN P w K mg base "_law_e_fresh" (top 41) 1 ["pen","at","cell","one","two"] ["pen"] (hZ K):=okN λ_ _ _ _ _ _ _ nd hr=>(aB (aW (i:=1) nd rfl (.inl rfl) (aY (aM (K:=K) rfl) (pv 0) aJ (λ_ _=>rfl))) (aB (eY (bA (bB (K:=K) rfl) (pv 1) aJ) (jG (pv 0) aJ dU)) (aB (aW (i:=2) nd rfl (.inl rfl) (bA (bB (K:=K) rfl) (bA dI (pv 1) (pv 1)) aJ)) (aB (dH (bH aCe (pv 1) (aN (bN (K:=K) rfl) rfl B.len cO (cM (aY (aM (K:=K) rfl) (pv 0) aJ (λ_ _=>rfl)) aE)) (bG _)) (aB (aW (i:=2) nd rfl (.inl rfl) (aY (aM (K:=K) rfl) (aY (aM (K:=K) rfl) (pv 0) aJ (λ_ _=>rfl)) (pv 1) (λ_ _=>rfl))) aH) (aB (dH (bH lO (aN (bN (K:=K) rfl) rfl B.len cO (cM (aY (aM (K:=K) rfl) (pv 0) aJ (λ_ _=>rfl)) aE)) aJ (bG _)) (aB (aW (i:=2) nd rfl (.inl rfl) (bA (bB (K:=K) rfl) (pv 2) (bA dI (bA gD (aY (aM (K:=K) rfl) (aY (aM (K:=K) rfl) (pv 0) aJ (λ_ _=>rfl)) (bA gD (bA dI (pv 1) aJ) (aN (bN (K:=K) rfl) rfl B.len cO (cM (aY (aM (K:=K) rfl) (pv 0) aJ (λ_ _=>rfl)) aE))) (λ_ _=>rfl)) aJ) (bA (bB (K:=K) rfl) (pv 1) aJ)))) aH) aH) aH)) (aB (dH (bH aFu (pv 2) (bA aHh aJ aJ) (bG _)) (aB (bF (pv 2)) aH) aH) (aB (aW (i:=3) nd rfl (.inl rfl) (bA gD (bA (bB (K:=K) rfl) (bA (bB (K:=K) rfl) (bA dI (bA gD (pv 2) aJ) aJ) (bA dI (pv 1) aJ)) aJ) aJ)) (aB (aW (i:=4) nd rfl (.inl rfl) (bA gD (bA (bB (K:=K) rfl) (bA (bB (K:=K) rfl) (bA dI (pv 3) (pv 3)) (bA dI (pv 1) aJ)) aJ) aJ)) (aB (bF (bA (bB (K:=K) rfl) (bA dI (bA (bB (K:=K) rfl) (pv 4) aJ) aJ) (bA gD (bA (bB (K:=K) rfl) (bA dI (pv 4) (pv 4)) (pv 3)) aJ))) aH))))))))
def iU (K:aa) (p20:Sp):TS:=(aT (gP (cF (tOp yLt (tOp (bO K) (aF 0) (tC (.int 2))) (aF 1))) (aT (bU (bI p20 [] E0 (aC (aF 0) aR)) (sF (aF 0) (tC (.int 2)) fY)) aQ) aQ) (aT (bU (tOp sI (tOp (bO K) (aF 0) (tC (.int 2))) (aF 1)) (aI 2)) (aT (bU (tOp aJZ (tOp (bO K) (aF 0) (tC (.int 2))) (aF 1)) (sF (aF 0) (tC (.int 2)) fY)) (aT (dG (aF 2)) aQ))))
def oH : OkN P w K mg base "_law_e_take" (top 42) 2 ["pen","many","found"] ["pen","many"] (iU K p20):=okN λ_ _ _ _ _ _ _ nd hr=>(aB (dH (bH aCe (aY (aM (K:=K) rfl) (pv 0) aJ (λ_ _=>rfl)) (pv 1) (bG _)) (aB (eY (aZ (d19.mono (by decide)) hr rfl (aA (pv 0) aE)) (jG (pv 0) aJ dU)) aH) aH) (aB (aW (i:=2) nd rfl (.inl rfl) (bA gD (aY (aM (K:=K) rfl) (pv 0) aJ (λ_ _=>rfl)) (pv 1))) (aB (eY (bA aAY (aY (aM (K:=K) rfl) (pv 0) aJ (λ_ _=>rfl)) (pv 1)) (jG (pv 0) aJ dU)) (aB (bF (pv 2)) aH))))
def iE (K:aa) (p21:Sp):TS:=(aT (bU (tOp (bO K) (rS (aC (tC (.int 10)) (aC (tC (.int 1000001)) (aC (tC (.int 3)) (aC (tC (.int 60)) (aC (tC (.int 1001)) (aC (tC (.int 2)) aR))))))) (bI p21 [] E0 (aC (aF 0) (aC (tC (.int 6)) aR)))) (aI 3)) (aT (bU (tOp eG (tC (.int 999999)) (tCB vK (aC (tOp (nG K) (aF 3) (tC (.int 2))) aR))) (aI 4)) (aT (bU (cU [none,some 1] (cX (aC (aF 1) aR)) (aI 0) [] λacc=>(cP (tOp eG (rS (aC (tC (.int 0)) aR)) (aF 1)) acc)) (aI 5)) (aT (iQ (cX (aC (aF 1) aR)) (aI 6) (aT (iQ (cX (aC (aF 6) aR)) (aI 7) (aT (bU (tOp (bK K) (aF 4) (bI p21 [] E0 (aC (aF 0) (aC (aF 3) aR)))) (sF (tOp (bO K) (aF 5) (aF 6)) (aF 7) fY)) (aT (bU (tOp (bO K) (tOp (bO K) (aF 5) (aF 6)) (aF 7)) (sF (tOp (bO K) (aF 5) (aF 7)) (aF 6) fY)) (aT (gP (aEL (aJd K (aF 2))) (aT (bU (tOp (bK K) (aF 4) (bI p21 [] E0 (aC (aF 0) (aC (aF 3) aR)))) (sF (tOp (bO K) (aF 5) (aF 7)) (aF 6) fY)) aQ) aQ) aQ)))) aQ)) (aT (dG (tCB (cW K) (aC (cU [none] (mS K (aF 5)) (aI 0) [] λacc=>(cP (tCB (cW K) (aC (aF 0) aR)) acc)) aR))) aQ)))))
def nL : OkN P w K mg base "_law_e_table" (top 43) 3 ["pen","many","even","top","low","lines","i","j"] ["pen","many","even"] (iE K p21):=okN λ_ _ _ _ _ _ _ nd hr=>(aB (aW (i:=3) nd rfl (.inl rfl) (aY (aM (K:=K) rfl) (dS (aS aJ (aS aJ (aS aJ (aS aJ (aS aJ (aS aJ aE))))))) (aZ (d20.mono (by decide)) hr rfl (aA (pv 0) (aS aJ aE))) (λ_ _=>rfl))) (aB (aW (i:=4) nd rfl (.inl rfl) (bA dI aJ (bE fA rfl B.int mI (cA (cN (cY (K:=K) rfl hr) (pv 3) aJ (bG _)) aE)))) (aB (dF (i:=5) nd rfl (Or.inl rfl) (N':=["k","many"]) (ix:=[none,some 1]) rfl rfl rfl (bL rfl B.range (aA (pv 1) aE)) (λ_ _ _=>(aP (i:=0) (show(["k","many"]:List Str).Nodup from by decide+kernel) rfl (Or.inl rfl))) (λ_ _ _ => .nil) (λ_ _ _ _=>(bZ rfl (bA dI (dS (aS aJ aE)) (pv 1)) rfl))) (aB (cV dm rfl (bL rfl B.range (aA (pv 1) aE)) (aP (i:=6) nd rfl (Or.inl rfl)) (aB (cV dm rfl (bL rfl B.range (aA (pv 6) aE)) (aP (i:=7) nd rfl (Or.inl rfl)) (aB (eY (bA (bB (K:=K) rfl) (pv 4) (aZ (d20.mono (by decide)) hr rfl (aA (pv 0) (aA (pv 3) aE)))) (jG (aY (aM (K:=K) rfl) (pv 5) (pv 6) (λ_ _=>rfl)) (pv 7) dU)) (aB (eY (aY (aM (K:=K) rfl) (aY (aM (K:=K) rfl) (pv 5) (pv 6) (λ_ _=>rfl)) (pv 7) (λ_ _=>rfl)) (jG (aY (aM (K:=K) rfl) (pv 5) (pv 7) (λ_ _=>rfl)) (pv 6) dU)) (aB (dH (pT (aBh (K:=K) rfl (pv 2) (λ_=>rfl))) (aB (eY (bA (bB (K:=K) rfl) (pv 4) (aZ (d20.mono (by decide)) hr rfl (aA (pv 0) (aA (pv 3) aE)))) (jG (aY (aM (K:=K) rfl) (pv 5) (pv 7) (λ_ _=>rfl)) (pv 6) dU)) aH) aH) aH)))) aH)) (aB (bF (bE (bV (K:=K) rfl) rfl B.tuple cH (cA (cR (N':=["line"]) (ix:=[none]) rfl rfl rfl (cQ (K:=K) rfl (pv 5)) (λ_ _ _=>(aP (i:=0) (show(["line"]:List Str).Nodup from by decide+kernel) rfl (Or.inl rfl))) (λ_ _ _ => .nil) (λ_ _ _ _=>(bZ rfl (bE (bV (K:=K) rfl) rfl B.tuple cH (aA (pv 0) aE)) rfl))) aE))) aH)))))
def eZ (K:aa) : TS:=(aT (bU (cU [none] (mS K (aF 0)) (aI 0) [] λacc=>(cP (tCB (tK K) (aC (aF 0) aR)) acc)) (aI 1)) (aT (iQ (cX (aC (tCB (lZ K) (aC (aF 1) aR)) aR)) (aI 2) (aT (iQ (cX (aC (tCB (lZ K) (aC (aF 1) aR)) aR)) (aI 3) (aT (iQ (cX (aC (tCB (lZ K) (aC (aF 1) aR)) aR)) (aI 4) (aT (bU (tCB tX (aC (tOp (bO K) (tOp (bO K) (aF 1) (aF 3)) (aF 4)) (aC (tOp (bK K) (tOp (bO K) (tOp (bO K) (aF 1) (aF 3)) (aF 2)) (tOp (bO K) (tOp (bO K) (aF 1) (aF 2)) (aF 4))) aR))) (sF (tOp (bO K) (aF 1) (aF 3)) (aF 4) fY)) aQ)) aQ)) aQ)) (aT (dG (tCB (cW K) (aC (cU [none] (mS K (aF 1)) (aI 0) [] λacc=>(cP (tCB (cW K) (aC (aF 0) aR)) acc)) aR))) aQ)))
def jE : OkN P w K mg base "_law_e_straight" (top 44) 1 ["table","lines","k","i","j"] ["table"] (eZ K):=okN λ_ _ _ _ _ _ _ nd hr=>(aB (dF (i:=1) nd rfl (Or.inl rfl) (N':=["line"]) (ix:=[none]) rfl rfl rfl (cQ (K:=K) rfl (pv 0)) (λ_ _ _=>(aP (i:=0) (show(["line"]:List Str).Nodup from by decide+kernel) rfl (Or.inl rfl))) (λ_ _ _ => .nil) (λ_ _ _ _=>(bZ rfl (bE (fF (K:=K) rfl rfl) rfl B.list nE (aA (pv 0) aE)) rfl))) (aB (cV dm rfl (bL rfl B.range (aX (aN (bN (K:=K) rfl) rfl B.len cO (aA (pv 1) aE)) aE)) (aP (i:=2) nd rfl (Or.inl rfl)) (aB (cV dm rfl (bL rfl B.range (aX (aN (bN (K:=K) rfl) rfl B.len cO (aA (pv 1) aE)) aE)) (aP (i:=3) nd rfl (Or.inl rfl)) (aB (cV dm rfl (bL rfl B.range (aX (aN (bN (K:=K) rfl) rfl B.len cO (aA (pv 1) aE)) aE)) (aP (i:=4) nd rfl (Or.inl rfl)) (aB (eY (aN (gU rfl) rfl B.min pD (cM (aY (aM (K:=K) rfl) (aY (aM (K:=K) rfl) (pv 1) (pv 3) (λ_ _=>rfl)) (pv 4) (λ_ _=>rfl)) (cG (bA (bB (K:=K) rfl) (aY (aM (K:=K) rfl) (aY (aM (K:=K) rfl) (pv 1) (pv 3) (λ_ _=>rfl)) (pv 2) (λ_ _=>rfl)) (aY (aM (K:=K) rfl) (aY (aM (K:=K) rfl) (pv 1) (pv 2) (λ_ _=>rfl)) (pv 4) (λ_ _=>rfl))) aE))) (jG (aY (aM (K:=K) rfl) (pv 1) (pv 3) (λ_ _=>rfl)) (pv 4) dU)) aH)) aH)) aH)) (aB (bF (bE (bV (K:=K) rfl) rfl B.tuple cH (cA (cR (N':=["line"]) (ix:=[none]) rfl rfl rfl (cQ (K:=K) rfl (pv 1)) (λ_ _ _=>(aP (i:=0) (show(["line"]:List Str).Nodup from by decide+kernel) rfl (Or.inl rfl))) (λ_ _ _ => .nil) (λ_ _ _ _=>(bZ rfl (bE (bV (K:=K) rfl) rfl B.tuple cH (aA (pv 0) aE)) rfl))) aE))) aH)))
def gZ (K:aa) (p21:Sp):TS:=(aT (bU (tOp (bK K) (aF 1) (bI p21 [] E0 (aC (aF 0) (aC (tOp vN (tC (.int 15)) (aF 1)) aR)))) (aI 2)) (aT (bU (tCB (tK K) (aC (tCB aKi (aC (aF 2) aR)) aR)) (aI 3)) (aT (bU (rS aR) (aI 4)) (aT (pQ (cF (tOp (aAc K) (aF 3) (rS aR))) (aT (oG (tBM K "list" kG (aF 4) (aC (tBM K "list" aEs (aF 3) (aC (bI p21 [] E0 (aC (aF 0) (aC (tCB (lZ K) (aC (aF 3) aR)) aR))) aR)) aR))) aQ)) (aT (bU (cU [none,some 1,some 0] (cX (aC (aF 2) aR)) (aI 0) [] λacc=>(cP (tOp eG (tCB vK (aC (tOp yGe (aF 0) (aF 1)) aR)) (bI p21 [] E0 (aC (aF 2) (aC (tC (.int 2)) aR)))) acc)) (aI 5)) (aT (bU (tOp (bO K) (rS (aC (tC (.int 1)) (aC (tC (.int 4)) (aC (tC (.int 30)) (aC (tC (.int 70000)) aR))))) (bI p21 [] E0 (aC (aF 0) (aC (tC (.int 4)) aR)))) (aI 6)) (aT (bU (rS aR) (aI 7)) (aT (iQ (aAB (aC (tC (.int 1)) (aC (aF 2) aR))) (aI 8) (aT (aLb 9 10 (aC (tOp (bO K) (aF 4) (aF 8)) (aC (tOp (bO K) (aF 4) (bI p21 [] E0 (aC (aF 0) (aC (aF 8) aR)))) aR))) (aT (bU (tOp (bK K) (tOp eG (tC (.int 2)) (bI p21 [] E0 (aC (aF 0) (aC (tOp (bK K) (aF 6) (tC (.int 1))) aR)))) (tCB vK (aC (tOp (aAc K) (tOp (bO K) (aF 5) (aF 9)) (tOp (bO K) (aF 5) (aF 10))) aR))) (aI 11)) (aT (bU (tIf (cF (tOp (nG K) (tOp sI (aF 11) (tC (.int 2))) (tC (.int 0)))) (gX (aC (tOp aJZ (aF 11) (tC (.int 2))) (aC (tC (.int 1)) aR))) (gX (aC (aF 11) (aC (tC (.int 2)) aR)))) (aI 12)) (aT (oG (tBM K "list" kG (aF 7) (aC (gX (aC (tCB tX (aC (aF 9) (aC (aF 10) aR))) (aC (tCB vP (aC (aF 9) (aC (aF 10) aR))) (aC (aF 12) aR)))) aR))) aQ))))) (aT (dG (tCB (cW K) (aC (tCB (xH K) (aC (aF 7) aR)) aR))) aQ)))))))))
def mL : OkN P w K mg base "_law_e_drawn" (top 45) 3 ["pen","many","size","names","mixed","odd","top","ties","k","one","other","halves","far_off"] ["pen","many"] (gZ K p21):=okN λ_ _ _ _ _ _ _ nd hr=>(aB (aW (i:=2) nd rfl (.inl rfl) (bA (bB (K:=K) rfl) (pv 1) (aZ (d20.mono (by decide)) hr rfl (aA (pv 0) (cG (bA iA aJ (pv 1)) aE))))) (aB (aW (i:=3) nd rfl (.inl rfl) (bE (fF (K:=K) rfl rfl) rfl B.list nE (aX (bE tN rfl B.range xG (aA (pv 2) aE)) aE))) (aB (aW (i:=4) nd rfl (.inl rfl) (dS aE)) (aB (jJ dm (bH (lB (K:=K) rfl hr) (pv 3) (dS aE) (bG _)) (aB (gE (pN (K:=K) rfl i6 mr mv gH (pv 4) (aX (pN (K:=K) rfl i6 Ab Ac aDn (pv 3) (aX (aZ (d20.mono (by decide)) hr rfl (aA (pv 0) (aX (aN (bN (K:=K) rfl) rfl B.len cO (aA (pv 3) aE)) aE))) aE)) aE))) aH)) (aB (dF (i:=5) nd rfl (Or.inl rfl) (N':=["place","many","pen"]) (ix:=[none,some 1,some 0]) rfl rfl rfl (bL rfl B.range (aA (pv 2) aE)) (λ_ _ _=>(aP (i:=0) (show(["place","many","pen"]:List Str).Nodup from by decide+kernel) rfl (Or.inl rfl))) (λ_ _ _ => .nil) (λ_ _ _ _=>(bZ rfl (bA dI (bE fA rfl B.int mI (cA (cN aFu (pv 0) (pv 1) (bG _)) aE)) (aZ (d20.mono (by decide)) hr rfl (aA (pv 2) (aS aJ aE)))) rfl))) (aB (aW (i:=6) nd rfl (.inl rfl) (aY (aM (K:=K) rfl) (dS (aS aJ (aS aJ (aS aJ (aS aJ aE))))) (aZ (d20.mono (by decide)) hr rfl (aA (pv 0) (aS aJ aE))) (λ_ _=>rfl))) (aB (aW (i:=7) nd rfl (.inl rfl) (dS aE)) (aB (cV dm rfl (fZ rfl B.range (aS aJ (aA (pv 2) aE))) (aP (i:=8) nd rfl (Or.inl rfl)) (aB (aHr (i:=9) (j:=10) rfl nd rfl rfl (by decide) rfl rfl (cM (aY (aM (K:=K) rfl) (pv 4) (pv 8) (λ_ _=>rfl)) (cM (aY (aM (K:=K) rfl) (pv 4) (aZ (d20.mono (by decide)) hr rfl (aA (pv 0) (aA (pv 8) aE))) (λ_ _=>rfl)) aE)) rfl) (aB (aW (i:=11) nd rfl (.inl rfl) (bA (bB (K:=K) rfl) (bA dI aJ (aZ (d20.mono (by decide)) hr rfl (aA (pv 0) (cG (bA (bB (K:=K) rfl) (pv 6) aJ) aE)))) (bE fA rfl B.int mI (cA (cN (lB (K:=K) rfl hr) (aY (aM (K:=K) rfl) (pv 5) (pv 9) (λ_ _=>rfl)) (aY (aM (K:=K) rfl) (pv 5) (pv 10) (λ_ _=>rfl)) (bG _)) aE)))) (aB (aW (i:=12) nd rfl (.inl rfl) (mB (bH (cY (K:=K) rfl hr) (bA gD (pv 11) aJ) aJ (bG _)) (cC (cG (bA aAY (pv 11) aJ) (aS aJ aE))) (cC (aA (pv 11) (aS aJ aE))))) (aB (gE (pN (K:=K) rfl i6 mr mv gH (pv 7) (mC (cC (aX (aN (gU rfl) rfl B.min pD (aA (pv 9) (aA (pv 10) aE))) (aX (aN (kR rfl) rfl B.max xA (aA (pv 9) (aA (pv 10) aE))) (aA (pv 12) aE)))) aE))) aH))))) (aB (bF (bE (bV (K:=K) rfl) rfl B.tuple cH (aX (aN (nJ (K:=K) rfl hr) rfl B.sorted fH (aA (pv 7) aE)) aE))) aH)))))))))
def fJ (K:aa) : TS:=(aT (bU (aFw [((aF 1),(tC (.int 0)))]) (aI 2)) (aT (bU (rS (aC (aF 1) aR)) (aI 3)) (aT (pQ (cF (tOp (aAc K) (aF 3) (rS aR))) (aT (bU (aKr K "list" aKZ (aF 3)) (aI 4)) (aT (iQ (mS K (aF 0)) (tD K 3 (cK (aI 5) (cK (aI 6) (cK (aI 7) vG)))) (aT (gP (aHk (cF (tOp (aJf K false) (aF 4) (gX (aC (aF 5) (aC (aF 6) aR))))) (tB (aBk (tOp vN (tOp (bK K) (aF 5) (aF 6)) (aF 4)) (aF 2)))) (aT (lU (aF 2) (tOp vN (tOp (bK K) (aF 5) (aF 6)) (aF 4)) (tOp (bK K) (iJ (aF 2) (aF 4)) (aF 7))) (aT (oG (tBM K "list" kG (aF 3) (aC (tOp vN (tOp (bK K) (aF 5) (aF 6)) (aF 4)) aR))) aQ)) aQ) aQ)) aQ))) (aT (dG (aF 2)) aQ))))
def oJ : OkN P w K mg base "_law_e_ways" (top 46) 1 ["ties","place","found","waiting","here","one","other","more"] ["ties","place"] (fJ K):=okN λ_ _ _ _ _ _ _ nd hr=>(aB (aW (i:=2) nd rfl (.inl rfl) (aAM (xM (pv 1) aJ aBQ) rfl rfl (by intro h;cases h) (by decide))) (aB (aW (i:=3) nd rfl (.inl rfl) (dS (aA (pv 1) aE))) (aB (jJ dm (bH (lB (K:=K) rfl hr) (pv 3) (dS aE) (bG _)) (aB (aW (i:=4) nd rfl (.inl rfl) (aGn (K:=K) rfl i6 Ab Ac aIW (pv 3))) (aB (cV dm rfl (cQ (K:=K) rfl (pv 0)) (dD (K:=K) rfl rfl (bD (aP (i:=5) nd rfl (Or.inl rfl)) (bD (aP (i:=6) nd rfl (Or.inl rfl)) (bD (aP (i:=7) nd rfl (Or.inl rfl)) dB)))) (aB (dH (PW.pt (xQ (bH (aGk (K:=K) rfl hr) (pv 4) (cC (aA (pv 5) (aA (pv 6) aE))) rfl) (qB (aHD (aBa (fM hr) (bA iA (bA (bB (K:=K) rfl) (pv 5) (pv 6)) (pv 4)) (pv 2)))))) (aB (kL (fM hr) (pv 2) (bA iA (bA (bB (K:=K) rfl) (pv 5) (pv 6)) (pv 4)) (bA (bB (K:=K) rfl) (dR (fM hr) (pv 2) (pv 4) (λ_ _=>rfl)) (pv 7)) rfl) (aB (gE (pN (K:=K) rfl i6 mr mv gH (pv 3) (cG (bA iA (bA (bB (K:=K) rfl) (pv 5) (pv 6)) (pv 4)) aE))) aH)) aH) aH)) aH))) (aB (bF (pv 2)) aH))))
def gA (K:aa) : TS:=(aT (bU (tC (.int 1)) (aI 1)) (aT (iQ (mS K (aF 0)) (tD K 3 (cK (aI 2) (cK (aI 3) (cK (aI 4) vG)))) (aT (bU (tOp aAq (aF 1) (tOp (bO K) (aF 4) (tC (.int 1)))) (aI 1)) aQ)) (aT (dG (gX (aC (aF 1) (aC (cU [none,none,none,some 1] (mS K (aF 0)) (tD K 3 (cK (aI 0) (cK (aI 1) (cK (aI 2) vG)))) [] λacc=>(cP (gX (aC (aF 0) (aC (aF 1) (aC (tOp aCV (tOp aAq (tOp (bO K) (aF 2) (tC (.int 0))) (aF 3)) (tOp (bO K) (aF 2) (tC (.int 1)))) aR)))) acc)) aR)))) aQ)))
def lM : OkN P w K mg base "_law_e_scaled" (top 47) 1 ["drawn","scale","one","other","far_off"] ["drawn"] (gA K):=okN λ_ _ _ _ _ _ _ nd hr=>(aB (aW (i:=1) nd rfl (.inr rfl) aJ) (aB (cV dm rfl (cQ (K:=K) rfl (pv 0)) (dD (K:=K) rfl rfl (bD (aP (i:=2) nd rfl (Or.inl rfl)) (bD (aP (i:=3) nd rfl (Or.inl rfl)) (bD (aP (i:=4) nd rfl (Or.inl rfl)) dB)))) (aB (aW (i:=1) nd rfl (.inr rfl) (bA qF (pv 1) (aY (aM (K:=K) rfl) (pv 4) aJ (λ_ _=>rfl)))) aH)) (aB (bF (cC (aA (pv 1) (cA (cR (N':=["one","other","far_off","scale"]) (ix:=[none,none,none,some 1]) rfl rfl rfl (cQ (K:=K) rfl (pv 0)) (λ_ _ _=>(dD (K:=K) rfl rfl (bD (aP (i:=0) (show(["one","other","far_off","scale"]:List Str).Nodup from by decide+kernel) rfl (Or.inl rfl)) (bD (aP (i:=1) (show(["one","other","far_off","scale"]:List Str).Nodup from by decide+kernel) rfl (Or.inl rfl)) (bD (aP (i:=2) (show(["one","other","far_off","scale"]:List Str).Nodup from by decide+kernel) rfl (Or.inl rfl)) dB))))) (λ_ _ _ => .nil) (λ_ _ _ _=>(bZ rfl (cC (aA (pv 0) (aA (pv 1) (cG (bA mF (bA qF (aY (aM (K:=K) rfl) (pv 2) aJ (λ_ _=>rfl)) (pv 3)) (aY (aM (K:=K) rfl) (pv 2) aJ (λ_ _=>rfl))) aE)))) rfl))) aE)))) aH)))
def eI (K:aa) (p22:Sp) (p23:Sp):TS:=(aT (bU (bI p22 [] E0 (aC (aF 0) aR)) (tD K 2 (cK (aI 2) (cK (aI 3) vG)))) (aT (bU (rS aR) (aI 4)) (aT (iQ (cX (aC (aF 1) aR)) (aI 5) (aT (bU (bI p23 [] E0 (aC (aF 3) (aC (aF 5) aR))) (aI 6)) (aT (iQ (cX (aC (aF 1) aR)) (aI 7) (aT (gP (tOr (cF (tOp yGt (tOp sI (iJ (aF 6) (aF 7)) (aF 2)) (tC (.int 0)))) (cF (tOp yGt (iJ (aF 6) (aF 7)) (tOp aAq (tC (.int 1000000)) (aF 2))))) (aT (dG (tC .non)) aQ) aQ) aQ)) (aT (oG (tBM K "list" kG (aF 4) (aC (tCB (cW K) (aC (cU [none,some 6,some 2] (cX (aC (aF 1) aR)) (aI 0) [] λacc=>(cP (tOp aCV (iJ (aF 1) (aF 0)) (aF 2)) acc)) aR)) aR))) aQ)))) (aT (dG (tCB (cW K) (aC (aF 4) aR))) aQ))))
def gW : OkN P w K mg base "_law_e_tree_table" (top 48) 2 ["drawn","many","scale","ties","lines","place","found","other"] ["drawn","many"] (eI K p22 p23):=okN λ_ _ _ _ _ _ _ nd hr=>(aB (eY (aZ (d21.mono (by decide)) hr rfl (aA (pv 0) aE)) (dD (K:=K) rfl rfl (bD (aP (i:=2) nd rfl (Or.inr rfl)) (bD (aP (i:=3) nd rfl (Or.inl rfl)) dB)))) (aB (aW (i:=4) nd rfl (.inl rfl) (dS aE)) (aB (cV dm rfl (bL rfl B.range (aA (pv 1) aE)) (aP (i:=5) nd rfl (Or.inl rfl)) (aB (aW (i:=6) nd rfl (.inr rfl) (aZ (d22.mono (by decide)) hr rfl (aA (pv 3) (aA (pv 5) aE)))) (aB (cV dm rfl (bL rfl B.range (aA (pv 1) aE)) (aP (i:=7) nd rfl (Or.inl rfl)) (aB (dH (PW.pt (aCZ (bH lO (bA gD (dR (fM hr) (pv 6) (pv 7) (λ_ _=>rfl)) (pv 2)) aJ (bG _)) (aBB (bH lO (dR (fM hr) (pv 6) (pv 7) (λ_ _=>rfl)) (bA qF aJ (pv 2)) (bG _))))) (aB (bF yI) aH) aH) aH)) (aB (gE (pN (K:=K) rfl i6 mr mv gH (pv 4) (aX (bE (bV (K:=K) rfl) rfl B.tuple cH (cA (cR (N':=["other","found","scale"]) (ix:=[none,some 6,some 2]) rfl rfl rfl (bL rfl B.range (aA (pv 1) aE)) (λ_ _ _=>(aP (i:=0) (show(["other","found","scale"]:List Str).Nodup from by decide+kernel) rfl (Or.inl rfl))) (λ_ _ _ => .nil) (λ_ _ _ _=>(bZ rfl (bA mF (dR (fM hr) (pv 1) (pv 0) (λ_ _=>rfl)) (pv 2)) rfl))) aE)) aE))) aH)))) (aB (bF (bE (bV (K:=K) rfl) rfl B.tuple cH (aA (pv 4) aE))) aH))))
def eP (K:aa) : TS:=(aT (bU (aF 1) (tD K 4 (cK (aI 2) (cK (aI 3) (cK (aI 4) (cK (aI 5) vG)))))) (aT (bU (tOp (bK K) (tOp (bO K) (tOp (bO K) (aF 0) (aF 2)) (aF 3)) (tOp (bO K) (tOp (bO K) (aF 0) (aF 4)) (aF 5))) (aI 6)) (aT (dG (rB (tOp yGt (aF 6) (tOp (bK K) (tOp (bO K) (tOp (bO K) (aF 0) (aF 2)) (aF 4)) (tOp (bO K) (tOp (bO K) (aF 0) (aF 3)) (aF 5)))) (tOp yGt (aF 6) (tOp (bK K) (tOp (bO K) (tOp (bO K) (aF 0) (aF 2)) (aF 5)) (tOp (bO K) (tOp (bO K) (aF 0) (aF 3)) (aF 4)))))) aQ)))
def iG : OkN P w K mg base "_law_e_is_broken" (top 49) 1 ["table","four","i","j","k","l","two"] ["table","four"] (eP K):=okN λ_ _ _ _ _ _ _ nd hr=>(aB (eY (pv 1) (dD (K:=K) rfl rfl (bD (aP (i:=2) nd rfl (Or.inl rfl)) (bD (aP (i:=3) nd rfl (Or.inl rfl)) (bD (aP (i:=4) nd rfl (Or.inl rfl)) (bD (aP (i:=5) nd rfl (Or.inl rfl)) dB)))))) (aB (aW (i:=6) nd rfl (.inl rfl) (bA (bB (K:=K) rfl) (aY (aM (K:=K) rfl) (aY (aM (K:=K) rfl) (pv 0) (pv 2) (λ_ _=>rfl)) (pv 3) (λ_ _=>rfl)) (aY (aM (K:=K) rfl) (aY (aM (K:=K) rfl) (pv 0) (pv 4) (λ_ _=>rfl)) (pv 5) (λ_ _=>rfl)))) (aB (bF (lI (cN lO (pv 6) (bA (bB (K:=K) rfl) (aY (aM (K:=K) rfl) (aY (aM (K:=K) rfl) (pv 0) (pv 2) (λ_ _=>rfl)) (pv 4) (λ_ _=>rfl)) (aY (aM (K:=K) rfl) (aY (aM (K:=K) rfl) (pv 0) (pv 3) (λ_ _=>rfl)) (pv 5) (λ_ _=>rfl))) (bG _)) (iS (cN lO (pv 6) (bA (bB (K:=K) rfl) (aY (aM (K:=K) rfl) (aY (aM (K:=K) rfl) (pv 0) (pv 2) (λ_ _=>rfl)) (pv 5) (λ_ _=>rfl)) (aY (aM (K:=K) rfl) (aY (aM (K:=K) rfl) (pv 0) (pv 3) (λ_ _=>rfl)) (pv 4) (λ_ _=>rfl))) (bG _))))) aH)))
def gJ (K:aa) (p24:Sp):TS:=(aT (bU (tCB (lZ K) (aC (aF 0) aR)) (aI 1)) (aT (iQ (cX (aC (aF 1) aR)) (aI 2) (aT (iQ (aAB (aC (aF 2) (aC (aF 1) aR))) (aI 3) (aT (iQ (cX (aC (aF 1) aR)) (aI 4) (aT (iQ (aAB (aC (aF 4) (aC (aF 1) aR))) (aI 5) (aT (gP (tB (bI p24 [] E0 (aC (aF 0) (aC (gX (aC (aF 2) (aC (aF 3) (aC (aF 4) (aC (aF 5) aR))))) aR)))) (aT (dG (tC (.bl true))) aQ) aQ) aQ)) aQ)) aQ)) aQ)) (aT (dG (tC (.bl false))) aQ)))
def lR : OkN P w K mg base "_law_e_breaks" (top 50) 2 ["table","many","i","j","k","l"] ["table"] (gJ K p24):=okN λ_ _ _ _ _ _ _ nd hr=>(aB (aW (i:=1) nd rfl (.inl rfl) (aN (bN (K:=K) rfl) rfl B.len cO (aA (pv 0) aE))) (aB (cV dm rfl (bL rfl B.range (aA (pv 1) aE)) (aP (i:=2) nd rfl (Or.inl rfl)) (aB (cV dm rfl (fZ rfl B.range (aA (pv 2) (aA (pv 1) aE))) (aP (i:=3) nd rfl (Or.inl rfl)) (aB (cV dm rfl (bL rfl B.range (aA (pv 1) aE)) (aP (i:=4) nd rfl (Or.inl rfl)) (aB (cV dm rfl (fZ rfl B.range (aA (pv 4) (aA (pv 1) aE))) (aP (i:=5) nd rfl (Or.inl rfl)) (aB (dH (jH (aZ (d23.mono (by decide)) hr rfl (aA (pv 0) (mC (cC (aA (pv 2) (aA (pv 3) (aA (pv 4) (aA (pv 5) aE))))) aE)))) (aB (bF nH) aH) aH) aH)) aH)) aH)) aH)) (aB (bF nH) aH)))
def eM (K:aa) (p25:Sp) (p26:Sp) (p27:Sp) (p21:Sp) (p28:Sp):TS:=(aT (bU (tOp (bK K) (tC (.int 1)) (bI p21 [] E0 (aC (aF 0) (aC (tC (.int 8)) aR)))) (aI 1)) (aT (bU (bI p21 [] E0 (aC (aF 0) (aC (tC (.int 5)) aR))) (aI 2)) (aT (gP (cF (tOp yGt (aF 2) (tC (.int 2)))) (aT (bU (bI p27 [] E0 (aC (aF 0) (aC (aF 1) (aC (tC (.bl true)) aR)))) (aI 3)) (aT (dG (tIf (cF (tOp (nG K) (aF 2) (tC (.int 3)))) (bI p26 [] E0 (aC (aF 3) aR)) (aF 3))) aQ)) aQ) (aT (bU (bI p28 [] E0 (aC (bI p25 [] E0 (aC (aF 0) (aC (aF 1) aR))) (aC (aF 1) aR))) (aI 3)) (aT (gP (aHk (cF (tOp (nG K) (aF 2) (tC (.int 2)))) (cF (tOp yGt (aF 1) (tC (.int 1))))) (aT (bU (bI p21 [] E0 (aC (aF 0) (aC (aF 1) aR))) (aI 4)) (aT (bU (tOp sI (tOp (bK K) (tOp (bK K) (aF 4) (tC (.int 1))) (bI p21 [] E0 (aC (aF 0) (aC (tOp vN (aF 1) (tC (.int 1))) aR)))) (aF 1)) (aI 5)) (aT (bU (tOp (bO K) (rS (aC (tC (.int 1)) (aC (tC (.int 2)) (aC (tUn aHb (tC (.int 1))) (aC (tUn aHb (tC (.int 2))) (aC (tC (.int 5)) (aC (tC (.int 1000)) aR))))))) (bI p21 [] E0 (aC (aF 0) (aC (tC (.int 6)) aR)))) (aI 6)) (aT (bU (cU [none] (mS K (aF 3)) (aI 0) [] λacc=>(cP (tCB (tK K) (aC (aF 0) aR)) acc)) (aI 7)) (aT (bU (tCB tX (aC (tC (.int 1000000)) (aC (tCB vP (aC (tC (.int 0)) (aC (tOp (bK K) (tOp (bO K) (tOp (bO K) (aF 7) (aF 4)) (aF 5)) (aF 6)) aR))) aR))) (sF (tOp (bO K) (aF 7) (aF 4)) (aF 5) fY)) (aT (bU (tOp (bO K) (tOp (bO K) (aF 7) (aF 4)) (aF 5)) (sF (tOp (bO K) (aF 7) (aF 5)) (aF 4) fY)) (aT (bU (tCB (cW K) (aC (cU [none] (mS K (aF 7)) (aI 0) [] λacc=>(cP (tCB (cW K) (aC (aF 0) aR)) acc)) aR)) (aI 3)) aQ))))))) aQ) (aT (dG (aF 3)) aQ))))))
def iK : OkN P w K mg base "_law_e_near_tree" (top 51) 4 ["pen","many","way","table","i","j","more","lines"] ["pen"] (eM K p25 p26 p27 p21 p28):=okN λ_ _ _ _ _ _ _ nd hr=>(aB (aW (i:=1) nd rfl (.inl rfl) (bA (bB (K:=K) rfl) aJ (aZ (d20.mono (by decide)) hr rfl (aA (pv 0) (aS aJ aE))))) (aB (aW (i:=2) nd rfl (.inl rfl) (aZ (d20.mono (by decide)) hr rfl (aA (pv 0) (aS aJ aE)))) (aB (dH (bH lO (pv 2) aJ (bG _)) (aB (aW (i:=3) nd rfl (.inl rfl) (aZ (d26.mono (by decide)) hr rfl (aA (pv 0) (aA (pv 1) (aS nH aE))))) (aB (bF (mB (bH (cY (K:=K) rfl hr) (pv 2) aJ (bG _)) (aZ (d25.mono (by decide)) hr rfl (aA (pv 3) aE)) (pv 3))) aH)) aH) (aB (aW (i:=3) nd rfl (.inl rfl) (aZ (d27.mono (by decide)) hr rfl (aX (aZ (d24.mono (by decide)) hr rfl (aA (pv 0) (aA (pv 1) aE))) (aA (pv 1) aE)))) (aB (dH (PW.pt (xQ (bH (cY (K:=K) rfl hr) (pv 2) aJ (bG _)) (qB (bH lO (pv 1) aJ (bG _))))) (aB (aW (i:=4) nd rfl (.inl rfl) (aZ (d20.mono (by decide)) hr rfl (aA (pv 0) (aA (pv 1) aE)))) (aB (aW (i:=5) nd rfl (.inl rfl) (bA gD (bA (bB (K:=K) rfl) (bA (bB (K:=K) rfl) (pv 4) aJ) (aZ (d20.mono (by decide)) hr rfl (aA (pv 0) (cG (bA iA (pv 1) aJ) aE)))) (pv 1))) (aB (aW (i:=6) nd rfl (.inl rfl) (aY (aM (K:=K) rfl) (dS (aS aJ (aS aJ (rQ (aDJ xZ aJ) (rQ (aDJ xZ aJ) (aS aJ (aS aJ aE))))))) (aZ (d20.mono (by decide)) hr rfl (aA (pv 0) (aS aJ aE))) (λ_ _=>rfl))) (aB (dF (i:=7) nd rfl (Or.inl rfl) (N':=["line"]) (ix:=[none]) rfl rfl rfl (cQ (K:=K) rfl (pv 3)) (λ_ _ _=>(aP (i:=0) (show(["line"]:List Str).Nodup from by decide+kernel) rfl (Or.inl rfl))) (λ_ _ _ => .nil) (λ_ _ _ _=>(bZ rfl (bE (fF (K:=K) rfl rfl) rfl B.list nE (aA (pv 0) aE)) rfl))) (aB (eY (aN (gU rfl) rfl B.min pD (aS aJ (aX (aN (kR rfl) rfl B.max xA (aS aJ (cG (bA (bB (K:=K) rfl) (aY (aM (K:=K) rfl) (aY (aM (K:=K) rfl) (pv 7) (pv 4) (λ_ _=>rfl)) (pv 5) (λ_ _=>rfl)) (pv 6)) aE))) aE))) (jG (aY (aM (K:=K) rfl) (pv 7) (pv 4) (λ_ _=>rfl)) (pv 5) dU)) (aB (eY (aY (aM (K:=K) rfl) (aY (aM (K:=K) rfl) (pv 7) (pv 4) (λ_ _=>rfl)) (pv 5) (λ_ _=>rfl)) (jG (aY (aM (K:=K) rfl) (pv 7) (pv 5) (λ_ _=>rfl)) (pv 4) dU)) (aB (aW (i:=3) nd rfl (.inl rfl) (bE (bV (K:=K) rfl) rfl B.tuple cH (cA (cR (N':=["line"]) (ix:=[none]) rfl rfl rfl (cQ (K:=K) rfl (pv 7)) (λ_ _ _=>(aP (i:=0) (show(["line"]:List Str).Nodup from by decide+kernel) rfl (Or.inl rfl))) (λ_ _ _ => .nil) (λ_ _ _ _=>(bZ rfl (bE (bV (K:=K) rfl) rfl B.tuple cH (aA (pv 0) aE)) rfl))) aE))) aH))))))) aH) (aB (bF (pv 3)) aH))))))
def kY (K:aa) : TS:=(aT (dG (tCB (aKk K) (aC (cU [none,some 0,some 1] (cX (aC (tCB (lZ K) (aC (aF 1) aR)) aR)) (aI 0) [] λacc=>(cP (tOp (bO K) (tOp (bO K) (aF 1) (tOp (bO K) (aF 2) (tOp vN (aF 0) (tC (.int 1))))) (tOp (bO K) (aF 2) (aF 0))) acc)) aR))) aQ)
def qJ : OkN P w K mg base "_law_e_sum" (top 52) 1 ["table","told"] ["table","told"] (kY K):=okN λ_ _ _ _ _ _ _ nd hr=>(aB (bF (aN (uO (K:=K) rfl rfl) rfl B.sum aEG (cA (cR (N':=["k","table","told"]) (ix:=[none,some 0,some 1]) rfl rfl rfl (bL rfl B.range (aX (aN (bN (K:=K) rfl) rfl B.len cO (aA (pv 1) aE)) aE)) (λ_ _ _=>(aP (i:=0) (show(["k","table","told"]:List Str).Nodup from by decide+kernel) rfl (Or.inl rfl))) (λ_ _ _ => .nil) (λ_ _ _ _=>(bZ rfl (aY (aM (K:=K) rfl) (aY (aM (K:=K) rfl) (pv 1) (aY (aM (K:=K) rfl) (pv 2) (bA iA (pv 0) aJ) (λ_ _=>rfl)) (λ_ _=>rfl)) (aY (aM (K:=K) rfl) (pv 2) (pv 0) (λ_ _=>rfl)) (λ_ _=>rfl)) rfl))) aE))) aH)
def fS (K:aa) (c3:Addr) (c4:Addr) (c1:Addr) (c5:Addr) (c0:Addr) (c6:Addr) (c7:Addr) (c8:Addr) (c9:Addr) (p13:Sp) (p29:Sp):TS:=(aT (bU (tC (.str "")) (aI 2)) (aT (aKj K c7 4 5 (λE=>(aT (gP (cF (tOp (nG K) (aF 0) (tC (.int 0)))) (aT (oG (bI p13 [] E (aC (aF 1) aR))) aQ) (aT (oG (bI p29 [] E (aC (aF 1) aR))) aQ)) aQ)) (aT (bU (rS (aC (tCB (aGX K) (aC (aF 4) (aC (gX (aC (tC (.ref c6)) (aC (tC (.ref c8)) (aC (tC (.ref c9)) (aC (tC (.ref c3)) (aC (tC (.ref c4)) (aC (tC (.ref c5)) aR))))))) aR))) (aC (aFz (tCB (aGX K) (aC (aF 4) (aC (tC (.ty "ValueError")) aR)))) aR))) (aI 3)) (aT (bU (tC (.str "odd")) (aI 2)) (aT (gP (aHk (cF (tOp (rIn K true) (tC (.bl true)) (aF 3))) (cF (tOp (aAc K) (tCB (aGX K) (aC (aF 4) (aC (tC (.ref c0)) aR))) (tCB (aGX K) (aC (aF 4) (aC (tC (.ref c1)) aR)))))) (aT (bU (tOp (bO K) (rS (aC (tC (.str "table")) (aC (tC (.str "even")) aR))) (tCB vK (aC (tCB (aGX K) (aC (aF 4) (aC (tC (.ref c0)) aR))) aR))) (aI 2)) aQ) aQ) aQ)))) (aT (dG (aF 2)) aQ)))
def kB : OkN P w K mg base "_law_e_refused" (top 53) 18 ["way","table","kind","some","e"] ["way","table"] (fS K c3 c4 c1 c5 c0 c6 c7 c8 c9 p13 p29):=okN λ_ _ _ _ _ _ _ nd hr=>(aB (aW (i:=2) nd rfl (.inl rfl) dM) (aB (aFV (K:=K) (ie:=4) (ln:=5) rfl rfl rfl rfl nd rfl rfl rfl e7 (λpn W E hx=>(aB (dH (PT.nox (bH (cY (K:=K) rfl hr) (pv 0) aJ (bG _))) (aB (gE (qV (y0.mono (by decide)) hr rfl hx (aA (pv 1) aE))) aH) (aB (gE (qV (y1.mono (by decide)) hr rfl hx (aA (pv 1) aE))) aH)) aH)) (λpn a=>(aB (aW (i:=3) nd rfl (.inl rfl) (dS (aX (aN (gF (K:=K) rfl) rfl B.isi gC (aA (pv 4) (mC (cC (aA (eV (v := .ref c6) rfl e6 rfl) (aA (eV (v := .ref c8) rfl e8 rfl) (aA (eV (v := .ref c9) rfl e9 rfl) (aA (eV (v := .ref c3) rfl e3 rfl) (aA (eV (v := .ref c4) rfl e4 rfl) (aA (eV (v := .ref c5) rfl e5 rfl) aE))))))) aE))) (rQ (aEH (aN (gF (K:=K) rfl) rfl B.isi gC (aA (pv 4) (aA (iL (v := .ty "ValueError") rfl GV qW rfl) aE)))) aE)))) (aB (aW (i:=2) nd rfl (.inl rfl) dM) (aB (dH (PW.pt (xQ (bH (tI (K:=K) rfl) nH (pv 3) rfl) (qB (bH (aId (K:=K) rfl (have hneu:=aIQ hr;hneu)) (aN (gF (K:=K) rfl) rfl B.isi gC (aA (pv 4) (aA (eV (v := .ref c0) rfl e0 rfl) aE))) (aN (gF (K:=K) rfl) rfl B.isi gC (aA (pv 4) (aA (eV (v := .ref c1) rfl e1 rfl) aE))) (bG _))))) (aB (aW (i:=2) nd rfl (.inl rfl) (aY (aM (K:=K) rfl) (dS (aS dM (aS dM aE))) (bE fA rfl B.int mI (aX (aN (gF (K:=K) rfl) rfl B.isi gC (aA (pv 4) (aA (eV (v := .ref c0) rfl e0 rfl) aE))) aE)) (λ_ _=>rfl))) aH) aH) aH))))) (aB (bF (pv 2)) aH)))
def iD (K:aa) (p30:Sp) (p31:Sp) (p32:Sp) (p33:Sp) (p34:Sp) (p29:Sp):TS:=(aT (gP (tB (bI p30 [] E0 (aC (aF 0) aR))) (aT (dG (rB (tOp (nG K) (bI p31 [] E0 (aC (tC (.int 1)) (aC (aF 0) aR))) (tC (.str "table"))) (tOp (nG K) (bI p31 [] E0 (aC (tC (.int 0)) (aC (aF 0) aR))) (tC (.str ""))))) aQ) aQ) (aT (gP (tOr (cF (tOp (aAc K) (bI p31 [] E0 (aC (tC (.int 1)) (aC (aF 0) aR))) (tC (.str "")))) (cF (tOp (aAc K) (bI p31 [] E0 (aC (tC (.int 0)) (aC (aF 0) aR))) (tC (.str ""))))) (aT (dG (tC (.bl false))) aQ) aQ) (aT (bU (bI p29 [] E0 (aC (aF 0) aR)) (aI 1)) (aT (gP (tOr (aEL (tB (tCB (aFh K) (aC (aF 1) (aC (tC (.ty "tuple")) aR))))) (tOr (cF (tOp (aAc K) (tCB (lZ K) (aC (aF 1) aR)) (tC (.int 2)))) (tOr (aEL (tB (tCB (aFh K) (aC (tOp (bO K) (aF 1) (tC (.int 0))) (aC (tC (.ty "int")) aR))))) (tB (tCB (aFh K) (aC (tOp (bO K) (aF 1) (tC (.int 0))) (aC (tC (.ty "bool")) aR))))))) (aT (dG (tC (.bl false))) aQ) aQ) (aT (gP (cF (tOp vO (bI p33 [] E0 (aC (aF 0) (aC (tOp (bO K) (aF 1) (tC (.int 1))) aR))) (tC (.bl true)))) (aT (dG (tC (.bl false))) aQ) aQ) (aT (dG (rB (tOp (nG K) (tOp (bO K) (aF 1) (tC (.int 0))) (bI p32 [] E0 (aC (aF 0) (aC (tOp (bO K) (aF 1) (tC (.int 1))) aR)))) (tOp (nG K) (tOp (bO K) (aF 1) (tC (.int 0))) (tOp (bO K) (bI p34 [] E0 (aC (aF 0) aR)) (tC (.int 0)))))) aQ))))))
def mP : OkN P w K mg base "_law_e_right" (top 54) 19 ["table","told"] ["table"] (iD K p30 p31 p32 p33 p34 p29):=okN λ_ _ _ _ _ _ _ nd hr=>(aB (dH (jH (aZ (d28.mono (by decide)) hr rfl (aA (pv 0) aE))) (aB (bF (lI (cN (cY (K:=K) rfl hr) (aZ (d29.mono (by decide)) hr rfl (aS aJ (aA (pv 0) aE))) dM (bG _)) (iS (cN (cY (K:=K) rfl hr) (aZ (d29.mono (by decide)) hr rfl (aS aJ (aA (pv 0) aE))) dM (bG _))))) aH) aH) (aB (dH (PW.pt (aCZ (bH (lB (K:=K) rfl hr) (aZ (d29.mono (by decide)) hr rfl (aS aJ (aA (pv 0) aE))) dM (bG _)) (aBB (bH (lB (K:=K) rfl hr) (aZ (d29.mono (by decide)) hr rfl (aS aJ (aA (pv 0) aE))) dM (bG _))))) (aB (bF nH) aH) aH) (aB (aW (i:=1) nd rfl (.inl rfl) (qV (y1.mono (by decide)) hr rfl aFP (aA (pv 0) aE))) (aB (dH (PW.pt (aCZ (pT (jH (aN (eX (K:=K) rfl) rfl B.isi gC (aA (pv 1) (aA (iL (v := .ty "tuple") rfl B.tuple cH rfl) aE))))) (aCZ (bH (lB (K:=K) rfl hr) (aN (bN (K:=K) rfl) rfl B.len cO (aA (pv 1) aE)) aJ (bG _)) (aCZ (pT (jH (aN (eX (K:=K) rfl) rfl B.isi gC (cM (aY (aM (K:=K) rfl) (pv 1) aJ (λ_ _=>rfl)) (aA (iL (v := .ty "int") rfl B.int mI rfl) aE))))) (aBB (jH (aN (eX (K:=K) rfl) rfl B.isi gC (cM (aY (aM (K:=K) rfl) (pv 1) aJ (λ_ _=>rfl)) (aA (iL (v := .ty "bool") rfl B.bool aAS rfl) aE))))))))) (aB (bF nH) aH) aH) (aB (dH (bH tV (aZ (d31.mono (by decide)) hr rfl (aA (pv 0) (cM (aY (aM (K:=K) rfl) (pv 1) aJ (λ_ _=>rfl)) aE))) nH (bG _)) (aB (bF nH) aH) aH) (aB (bF (lI (cN (cY (K:=K) rfl hr) (aY (aM (K:=K) rfl) (pv 1) aJ (λ_ _=>rfl)) (aZ (d30.mono (by decide)) hr rfl (aA (pv 0) (cM (aY (aM (K:=K) rfl) (pv 1) aJ (λ_ _=>rfl)) aE))) (bG _)) (iS (cN (cY (K:=K) rfl hr) (aY (aM (K:=K) rfl) (pv 1) aJ (λ_ _=>rfl)) (aY (aM (K:=K) rfl) (aZ (d32.mono (by decide)) hr rfl (aA (pv 0) aE)) aJ (λ_ _=>rfl)) (bG _))))) aH))))))
def aIc (K:aa) (p35:Sp) (p36:Sp) (p31:Sp) (p37:Sp) (p27:Sp) (p21:Sp) (p6:Sp):TS:=(aT (bU (bI p36 [] E0 (aC (aF 0) aR)) (aI 1)) (aT (iQ (cX (aC (tC (.int 3)) aR)) (aI 2) (aT (gP (aEL (tB (bI p37 [] E0 (aC (bI p35 [] E0 (aC (aF 1) aR)) aR)))) (aT (dG (tC (.bl false))) aQ) aQ) aQ)) (aT (bU (bI p27 [] E0 (aC (aF 1) (aC (tOp (bK K) (tC (.int 2)) (bI p21 [] E0 (aC (aF 1) (aC (tC (.int 7)) aR)))) (aC (tC (.bl false)) aR)))) (aI 3)) (aT (bU (tOp (bO K) (rS (aC (tC (.str "even")) (aC (tC (.str "")) aR))) (tCB vK (aC (bI p6 [] E0 (aC (aF 3) aR)) aR))) (aI 4)) (aT (gP (cF (tOp (nG K) (aF 4) (tC (.str "even")))) (aT (dG (rB (tOp (nG K) (bI p31 [] E0 (aC (tC (.int 0)) (aC (aF 3) aR))) (tC (.str "even"))) (tOp (nG K) (bI p31 [] E0 (aC (tC (.int 1)) (aC (aF 3) aR))) (tC (.str "even"))))) aQ) aQ) (aT (dG (tOp (nG K) (bI p31 [] E0 (aC (tC (.int 0)) (aC (aF 3) aR))) (tC (.str "")))) aQ))))))
def aHp : OkN P w K mg base "law" (top 55) 20 ["script","pen","turn","table","due"] ["script"] (aIc K p35 p36 p31 p37 p27 p21 p6):=okN λ_ _ _ _ _ _ _ nd hr=>(aB (aW (i:=1) nd rfl (.inl rfl) (aZ (d34.mono (by decide)) hr rfl (aA (pv 0) aE))) (aB (cV dm rfl (bL rfl B.range (aS aJ aE)) (aP (i:=2) nd rfl (Or.inl rfl)) (aB (dH (pT (jH (aZ (d35.mono (by decide)) hr rfl (aX (aZ (d33.mono (by decide)) hr rfl (aA (pv 1) aE)) aE)))) (aB (bF nH) aH) aH) aH)) (aB (aW (i:=3) nd rfl (.inl rfl) (aZ (d26.mono (by decide)) hr rfl (aA (pv 1) (cG (bA (bB (K:=K) rfl) aJ (aZ (d20.mono (by decide)) hr rfl (aA (pv 1) (aS aJ aE)))) (aS nH aE))))) (aB (aW (i:=4) nd rfl (.inl rfl) (aY (aM (K:=K) rfl) (dS (aS dM (aS dM aE))) (bE fA rfl B.int mI (aX (aZ (d6.mono (by decide)) hr rfl (aA (pv 3) aE)) aE)) (λ_ _=>rfl))) (aB (dH (bH (cY (K:=K) rfl hr) (pv 4) dM (bG _)) (aB (bF (lI (cN (cY (K:=K) rfl hr) (aZ (d29.mono (by decide)) hr rfl (aS aJ (aA (pv 3) aE))) dM (bG _)) (iS (cN (cY (K:=K) rfl hr) (aZ (d29.mono (by decide)) hr rfl (aS aJ (aA (pv 3) aE))) dM (bG _))))) aH) aH) (aB (bF (cN (cY (K:=K) rfl hr) (aZ (d29.mono (by decide)) hr rfl (aS aJ (aA (pv 3) aE))) dM (bG _))) aH))))))
end
def whD:Dt->Bool
 | .int _=>true
 |_=>false
def aHi:Dt->Bool
 | .tup ds=>ds.all whD
 |_=>false
section
variable {K:aa}
end
theorem fD:∀ns:List Int,oI (ns.map Dt.int)=0
 |[]=>rfl
 |n :: ns=>by rw[b8,oI,fD ns];rfl
theorem wQ (ns:List Int):dep (.lst (ns.map Dt.int))<=100:=by rw[dep,fD];decide
def gd (i j:Int):Int:=((i.gcd j:Nat):Int)
section
variable {K:aa}
inductive aEY (vs : List V) (H : Hp) (Q : VK) : Prop
 |mk (i j : Int) (h0 : vs = [.int i, .int j]) (h1 : Q (.int (gd i j)) H) : aEY vs H Q
def aKP:Sp:=λvs H Q _=>aEY vs H Q
theorem aKJ (i:Int):(if i<0 then -i else i)=((i.natAbs:Nat):Int):=by split <;> omega
theorem aKE {a b:Nat}:((a:Int) % (b:Int))=((a % b:Nat):Int):=(Int.natCast_emod a b).symm
theorem aJy:∀vs H Q E,aKP vs H Q E->fW K { nx:=λ_ H'=>Q .non H',rt:=Q } (start ["one","other","left"] vs) H:=by
 intro vs H Q E h
 obtain⟨i,j,rfl,q⟩:=h
 refine⟨_,rfl,i,rfl,?_⟩
 refine⟨_,rfl,j,rfl,?_⟩
 refine⟨λm σ' H'=>H'=H/\∃(a b:Nat) (x2:Option V),σ'=[some (.int (a:Int)),some (.int (b:Int)),x2]/\b=m/\AL a b=i.gcd j,⟨j.natAbs,rfl,i.natAbs,j.natAbs,none,by rw[aKJ,aKJ];rfl,rfl,rfl⟩,?_⟩
 rintro m σ' H' ⟨rfl,a,b,x2,rfl,rfl,hg⟩
 refine⟨_,rfl,_,_,rfl,rfl,_,rfl,?_⟩
 by_cases c:0<b
 ·refine cD (decide_eq_true (by omega)) ⟨λσ2 H2=>H2=H'/\∃(a' b':Nat) (x2:Option V),σ2=[some (.int (a':Int)),some (.int (b':Int)),x2]/\b'<b/\AL a' b'=i.gcd j,λσ2 H2 ⟨e,a',b',x2,e1,e2,e3⟩=>⟨b',e2,e,a',b',x2,e1,rfl,e3⟩,?_⟩
  refine⟨_,rfl,_,rfl,_,_,rfl,rfl,by show(0:Int)<(b:Int);omega,_,rfl,_,rfl,rfl,b,a % b,some (.int ((a % b:Nat):Int)),?_,Nat.mod_lt _ c,?_⟩
  ·show[some (V.int (b:Int)),some (V.int ((a:Int) % (b:Int))),some (V.int ((a:Int) % (b:Int)))]=_
   rw[aKE]
  ·rw[Nat.gcd_comm,<- Nat.gcd_rec,Nat.gcd_comm];exact hg
 ·refine cB (decide_eq_false (by omega)) ⟨_,rfl,?_⟩
  have:b=0:=by omega
  subst this
  rw[Nat.gcd_zero_right] at hg
  rw[hg]
  exact q
end
section
variable {K:aa}
def prN (L:List (Nat×Nat)):List (List Int):=L.map λe=>[(e.1:Int),(e.2:Int)]
theorem aIj {H:Hp}{xs:List V}{L:List (Nat×Nat)}(h:Rows K H xs (prN L)){i:Nat}{x:V}(hx:xs[i]?=some x):∃e b,L[i]?=some e/\x = .ref b/\SqT K H b [bW e.1,bW e.2]:=by
 have hi:i<xs.length:=(au.mp hx).1
 have hl:i<L.length:=by rw[h.1] at hi;unfold prN at hi;rwa[ai] at hi
 obtain⟨b,e1,e2⟩:=h.2 i [(L[i].1:Int),(L[i].2:Int)] (by unfold prN;rw[az,ah hl];rfl)
 rw[hx] at e1
 exact⟨L[i],b,ah hl,da e1,e2⟩
theorem aBo {L:List (Nat×Nat)}:(prN L).length=L.length:=by unfold prN;rw[ai]
theorem aGf {L M:List (Nat×Nat)}:prN (L++M)=prN L++prN M:=by unfold prN;rw[bu]
end
end K64
namespace K64.Q
abbrev Tie:=Nat×Nat
def adj (T:List Tie) (x y:Nat):Prop:=(min x y,max x y)∈T
inductive Cn (T:List Tie) (S:List Nat):Nat->Nat->Prop
 |refl (x:Nat):Cn T S x x
 |step {x y z:Nat}:Cn T S x y->y∈S->z∈S->adj T y z->Cn T S x z
variable {T:List Tie}{S:List Nat}
theorem aEi {x y:Nat}(h:adj T x y):adj T y x:=by
 unfold adj at h ⊢
 rw[Bo,Bp];exact h
theorem Cn.trans {x y z:Nat}(h:Cn T S x y)(g:Cn T S y z):Cn T S x z:=by
 induction g with
 |refl=>exact h
 |step _ a b c ih=>exact .step ih a b c
theorem Cn.symm {x y:Nat}(h:Cn T S x y):Cn T S y x:=by
 induction h with
 |refl=>exact .refl _
 |step _ a b c ih=>exact(Cn.step (.refl _) b a (aEi c)).trans ih
theorem Cn.mono {T':List Tie}{S':List Nat}(ht:∀e∈T,e∈T')(hs:∀x∈S,x∈S'){x y:Nat}(h:Cn T S x y):Cn T' S' x y:=by
 induction h with
 |refl=>exact .refl _
 |step _ a b c ih=>exact .step ih (hs _ a) (hs _ b) (ht _ c)
def ncn (T:List Tie) (S0:List Nat) (x y:Nat):Bool:=@decide (¬ Cn T S0 x y) (gk _)
theorem aFW {S0:List Nat}{x y:Nat}:ncn T S0 x y=true↔¬ Cn T S0 x y:=by
 unfold ncn
 exact @decide_eq_true_iff _ (gk _)
def cls (T:List Tie) (S0:List Nat):Nat->List Nat->Nat
 |0,_=>0
 |_+1,[]=>0
 |k+1,x :: l=>1+cls T S0 k (l.filter (ncn T S0 x))
structure Pt (T:List Tie)(S0 S:List Nat)(P:List (List Nat)):Prop where
 perm:P.flatten.Perm S
 ne:∀q∈P,q≠[]
 cn:∀q∈P,∀x∈q,∀y∈S,y∈q↔Cn T S0 x y
theorem Pt.len {S0:List Nat}:∀(k:Nat) (S:List Nat) (P:List (List Nat)),S.length<=k->S.Nodup->Pt T S0 S P->P.length=cls T S0 k S
 |k,[],P,_,_,h=>by
  have:P=[]:=by
   cases P with
   |nil=>rfl
   |cons q P=>
    have e:=List.perm_nil.mp h.perm
    rw[mh] at e
    exact absurd (List.append_eq_nil_iff.mp e).1 (h.ne q (b7 ..))
  subst this
  cases k <;> rfl
 |0,x :: l,P,hk,_,_=>by simp at hk
 |k+1,x :: l,P,hk,nd,h=>by
  have hx:x∈P.flatten:=h.perm.mem_iff.mpr (b7 ..)
  obtain⟨q,hq,hxq⟩:=List.mem_flatten.mp hx
  obtain⟨P1,P2,rfl⟩:=List.append_of_mem hq
  have hp:(q++(P1++P2).flatten).Perm (x :: l):=by
   refine List.Perm.trans ?_ h.perm
   rw[AM,AM,mh]
   exact List.perm_append_comm_assoc _ _ _
  have nd2:(q++(P1++P2).flatten).Nodup:=hp.nodup_iff.mpr nd
  have nd3:=mw.mp nd2
  have ndf:(l.filter (ncn T S0 x)).Nodup:=List.filter_sublist.nodup (de.mp nd).2
  have key:((P1++P2).flatten).Perm (l.filter (ncn T S0 x)):=by
   refine(kr nd3.2.1 ndf).mpr λy=>?_
   rw[du,aFW]
   constructor
   ·intro hy
    have hm:y∈x :: l:=hp.mem_iff.mp (dk _ hy)
    have hnq:y∉q:=λz=>nd3.2.2 y z y hy rfl
    refine⟨?_,λc=>hnq ((h.cn q hq x hxq y hm).mpr c)⟩
    rcases b6.mp hm with e | hm
    ·subst e;exact absurd hxq hnq
    ·exact hm
   ·rintro⟨hy,hc⟩
    have hm:y∈q++(P1++P2).flatten:=hp.mem_iff.mpr (ar _ hy)
    rcases b9.mp hm with z | z
    ·exact absurd ((h.cn q hq x hxq y (ar _ hy)).mp z) hc
    ·exact z
  have hl:(l.filter (ncn T S0 x)).length<=k:=by
   have:=j3 (ncn T S0 x) l
   rw[bq] at hk
   omega
  have hsub:∀r,r∈P1++P2->r∈P1++q :: P2:=λr hr=>by
   rcases b9.mp hr with z | z
   ·exact ck _ z
   ·exact dk _ (ar _ z)
  have:=Pt.len k (l.filter (ncn T S0 x)) (P1++P2) hl ndf ⟨key,λr hr=>h.ne r (hsub r hr),λr hr z hz y hy=>h.cn r (hsub r hr) z hz y (ar _ (du.mp hy).1)⟩
  rw[cls,<- this,ao,ao,bq]
  omega
end K64.Q
namespace K64
open PySem L2
abbrev Tq:=Nat×Nat×Int×Int
def pA (q:Tq):Dt := .tup [.int (q.1:Int), .int (q.2.1:Int), .tup [.int q.2.2.1, .int q.2.2.2]]
def aBy (m:Nat) (q:Tq):Prop:=q.1<q.2.1/\q.2.1<m/\0<=q.2.2.1/\1<=q.2.2.2/\q.2.2.1.gcd q.2.2.2=1
theorem dP {i j:Int}:eqD (.int i) (.int j)=decide (i=j):=by rw[eqD];rfl
theorem aDp {p q:Tq}(h:pA p=pA q):p=q:=by
 obtain⟨a,b,c,d⟩:=p
 obtain⟨a',b',c',d'⟩:=q
 unfold pA at h
 simp only[Dt.tup.injEq,vx,Dt.int.injEq,and_true] at h
 obtain⟨h1,h2,h3,h4⟩:=h
 have e1:a=a':=by omega
 have e2:b=b':=by omega
 rw[e1,e2,h3,h4]
section
variable {K:aa}
end
def pr (q:Tq):Nat×Nat:=(q.1,q.2.1)
section
variable {K:aa}
theorem aBf {H:Hp}{q:Tq}{x:V}(h:Sh K H (pA q) x):∃b g,x = .ref b/\SqT K H b [.int (q.1:Int), .int (q.2.1:Int), .ref g]/\SqT K H g [.int q.2.2.1, .int q.2.2.2]:=by
 obtain⟨b,xs,rfl,hb,x0,t0,rfl,h0,x1,t1,rfl,h1,x2,t2,rfl,h2,rfl⟩:=h
 obtain⟨g,zs,rfl,hg,y0,u0,rfl,k0,y1,u1,rfl,k1,rfl⟩:=h2
 obtain rfl:x0 = .int (q.1:Int):=h0
 obtain rfl:x1 = .int (q.2.1:Int):=h1
 obtain rfl:y0 = .int q.2.2.1:=k0
 obtain rfl:y1 = .int q.2.2.2:=k1
 exact⟨b,g,rfl,hb,hg⟩
theorem aFM {H:Hp}{qs:List Tq}{xs:List V}(hL:ShL K H (qs.map pA) xs){i:Nat}{x:V}(hx:xs[i]?=some x):∃q,qs[i]?=some q/\Sh K H (pA q) x:=by
 have hl:(qs.map pA).length=xs.length:=hL.length
 have hi:i<xs.length:=(au.mp hx).1
 have hq:i<qs.length:=by rw[ai] at hl;omega
 obtain⟨y,hy,sy⟩:=hL.get (j:=i) (d:=pA qs[i]) (by rw[az,ah hq];rfl)
 rw[hx] at hy
 cases hy
 exact⟨qs[i],ah hq,sy⟩
inductive yP (K : aa) (vs : List V) (H : Hp) (Q : VK) : Prop
 |mk (x : V) (qs : List Tq) (h0 : vs = [x]) (h1 : Sh K H (.tup (qs.map pA)) x) (h2 : qs.length <= 13) (h3 : ∀p ys H', Same H H' -> H' p = some (.lst ys) -> Rows K H' ys (prN (qs.map pr)) -> Q (.ref p) H') : yP K vs H Q
def aEx (K:aa):Sp:=λvs H Q _=>yP K vs H Q
theorem aGz:∀vs H Q E,aEx K vs H Q E->nO K { nx:=λ_ H'=>Q .non H',rt:=Q } (start ["drawn"] vs) H:=by
 intro vs H Q E h
 obtain⟨x,qs,rfl,hx,l13,q⟩:=h
 obtain⟨a,xs,rfl,ha,hL⟩:=hx
 have hl:(qs.map pA).length=xs.length:=hL.length
 rw[ai] at hl
 refine⟨_,rfl,a,rfl, .inr ⟨⟨xs,ha⟩,λA hA=>?_⟩⟩
 refine kA (K:=K) (a:=a) (xs:=xs) (λi σ' H'=>i<=xs.length/\(∃x0 x1 x2,σ'=[x0,x1,x2])/\Same H H'/\∃ys,H' A=some (.lst ys)/\Rows K H' ys (prN ((qs.take i).map pr))) ⟨bc _,⟨_,_,_,rfl⟩,aG hA _,[],aD,Rows.nil⟩ (λi σ' H' _ ⟨_,_,s,_⟩=>s.tup ha) (λi y σ1 H1 hy ⟨_,⟨x0,x1,x2,es⟩,s1,ys,hA1,hR⟩=>?_) λσ1 H1 ⟨_,⟨x0,x1,x2,es⟩,s1,ys,hA1,hR⟩=>?_
 ·subst es
  have hi:i<xs.length:=(au.mp hy).1
  obtain⟨t,ht,st⟩:=aFM hL hy
  obtain⟨b,g,rfl,hb,hg⟩:=aBf (st.same s1)
  refine⟨b,_,rfl,hb,rfl, .int (t.1:Int),[.int (t.2.1:Int), .ref g],rfl, .int (t.2.1:Int),[.ref g],rfl, .ref g,[],rfl,rfl,?_⟩
  refine⟨_,rfl,_,rfl,show 2<=ba by decide,λz hz=>?_⟩
  have sz:=aG hz (.tup [V.int (t.1:Int), .int (t.2.1:Int)])
  have hAz:=sz _ _ hA1
  refine⟨ys,hAz,?_,hi,⟨_,_,_,rfl⟩,dQ hA (s1.trans sz),ys++[.ref z],aD,?_⟩
  ·rw[hR.1,aBo,ai,fg]
   exact cw (show _<=13 by omega) (by decide)
  ·rw[iz,ht,bu,aGf]
   exact Rows.snoc (Rows.put (hR.same sz) hAz) (dJ (.of aD) hAz)
 ·rw[jr (by omega)] at hR
  exact q A ys H1 s1 hA1 hR
end
end K64
namespace K64.Q
open PySem L2
theorem aFE {x:Nat}{gs:List Nat}:inV (.int (x:Int)) (gs.map bW)=decide (x∈gs):=by
 unfold inV
 rw[List.any_map]
 by_cases h:x∈gs
 ·rw[decide_eq_true h]
  exact ny.mpr ⟨x,h,by show((x:Int) == (x:Int))=true;simp⟩
 ·rw[decide_eq_false h]
  refine t8.mpr λy hy=>?_
  show ¬ ((y:Int) == (x:Int))=true
  intro e
  have:(y:Int)=(x:Int):=by simpa using e
  exact h (by rw[show x=y by omega];exact hy)
theorem aCN (gs:List Nat):(gs.map bW).all oP=true:=by
 rw[Bh]
 exact ja.mpr λ_ _=>rfl
section
variable {K:aa}
def RowsM (H:Hp) (xs:List V) (P:List (List Nat)):Prop:=xs.length=P.length/\∀(i:Nat) (q:List Nat),P[i]?=some q->∃b,xs[i]?=some (.ref b)/\H b=some (.lst (q.map bW))
theorem RowsM.same {H H':Hp}{xs:List V}{P:List (List Nat)}(h:RowsM H xs P)(e:Same H H'):RowsM H' xs P:=⟨h.1,λi row z=>by
 obtain⟨b,e1,e2⟩:=h.2 i row z
 exact⟨b,e1,e _ _ e2⟩⟩
theorem RowsM.at {H:Hp}{xs:List V}{P:List (List Nat)}(h:RowsM H xs P){i:Nat}{x:V}(hx:xs[i]?=some x):∃q b,P[i]?=some q/\x = .ref b/\H b=some (.lst (q.map bW)):=by
 have hi:i<xs.length:=(au.mp hx).1
 have hl:i<P.length:=by rw[h.1] at hi;exact hi
 obtain⟨b,e1,e2⟩:=h.2 i P[i] (ah hl)
 rw[hx] at e1
 exact⟨P[i],b,ah hl,da e1,e2⟩
section
variable {H:Hp}{A t:Addr}{xs:List V}{P:List (List Nat)}{f:List Nat->Bool}{tc:TT}{σ:St}{D:hU}
end
theorem in_list {K:aa}{H:Hp}{b:Addr}{x:Nat}{q:List Nat}{neg:Bool}{Q:VK}(hb:Sq K H b (q.map bW))(h:Q (.bl (if neg then !decide (x∈q) else decide (x∈q))) H):aJf K neg (.int (x:Int)) (.ref b) H Q:=
 .inl (.inl ⟨b,q.map bW,rfl,hb,rfl,aCN q,by rw[aFE];exact h⟩)
structure Ts (K:aa)(H:Hp)(a:Addr)(xs:List V)(L:List Tie):Prop where
 sq:H a=some (.lst xs)
 rows:Rows K H xs (prN L)
theorem Ts.same {H H':Hp}{a:Addr}{xs:List V}{L:List Tie}(h:Ts K H a xs L)(s:Same H H'):Ts K H' a xs L:=⟨s _ _ h.sq,h.rows.same s⟩
theorem Ts.len {H:Hp}{a:Addr}{xs:List V}{L:List Tie}(h:Ts K H a xs L):xs.length=L.length:=by rw[h.rows.1,aBo]
end
end K64.Q
namespace K64
open PySem L2
abbrev Ed:=Nat×Nat×Int
def vs (f:List (Nat×Int)):List Nat:=f.map ub
def Jo (e:Ed) (x y:Nat):Prop:=(e.1=x/\e.2.1=y)\/(e.1=y/\e.2.1=x)
inductive Gr (L:List Ed) (s:Nat):List (Nat×Int)->List (Nat×Nat)->Prop
 |one:Gr L s [(s,0)] []
 |add {f:List (Nat×Int)}{m:List (Nat×Nat)}{x y k:Nat}{d:Int}{e:Ed}:Gr L s f m->(x,d)∈f->y∉vs f->L[k]?=some e->Jo e x y->Gr L s (f++[(y,d+e.2.2)]) (m++[(y,k)])
variable {L:List Ed}{s:Nat}{f g:List (Nat×Int)}{m m':List (Nat×Nat)}
theorem jP {p:Nat×Int}:vs (f++[p])=vs f++[p.1]:=by unfold vs;rw[bu];rfl
theorem fU {x:Nat}{d:Int}(h:(x,d)∈f):x∈vs f:=bj.mpr ⟨_,h,rfl⟩
theorem Gr.keys (h:Gr L s f m):vs f=s :: m.map ub:=by
 induction h with
 |one=>rfl
 |add _ _ _ _ _ ih=>rw[jP,ih,bu];rfl
theorem Gr.nd (h:Gr L s f m):(vs f).Nodup:=by
 induction h with
 |one=>exact de.mpr ⟨by simp,kd⟩
 |add _ _ hy _ _ ih=>
  rw[jP,mw]
  exact⟨ih,by simp,λa ha b hb e=>hy (by rw[bb.mp hb] at e;have e:a=_:=e;subst e;exact ha)⟩
theorem Gr.len (h:Gr L s f m):f.length=m.length+1:=by
 have:=congrArg AB h.keys
 unfold vs at this
 simpa using this
theorem Gr.zero (h:Gr L s f m):(s,0)∈f:=by
 induction h with
 |one=>simp
 |add _ _ _ _ _ ih=>exact ck _ ih
theorem Gr.step (h:Gr L s f m):∀y k,(y,k)∈m->∃e x d,L[k]?=some e/\Jo e x y/\x≠y/\(x,d)∈f/\(y,d+e.2.2)∈f:=by
 induction h with
 |one=>exact λy k h=>by cases h
 |add _ hx hy he hj ih=>
  intro y' k' hm
  rcases b9.mp hm with hm | hm
  ·obtain⟨e,x,d,h1,h2,h3,h4,h5⟩:=ih y' k' hm
   exact⟨e,x,d,h1,h2,h3,ck _ h4,ck _ h5⟩
  ·cases bb.mp hm
   exact⟨_,_,_,he,hj,λe=>hy (e ▸ fU hx),ck _ hx,dk _ (by simp)⟩
theorem Gr.edges (h:Gr L s f m):(m.map Ah).Nodup:=by
 induction h with
 |one=>exact kd
 | @add f m x y k d e h0 hx hy he hj ih=>
  rw[bu,mw]
  refine⟨ih,by simp,λa ha b hb ab=>?_⟩
  obtain⟨⟨y',k'⟩,hm,rfl⟩:=bj.mp ha
  have kk:k'=k:=by simpa using ab.trans (by simpa using hb)
  subst kk
  obtain⟨e',x',d',h1,h2,_,h4,h5⟩:=h0.step y' k' hm
  rw[he] at h1
  cases h1
  have u1:=fU h4
  have u2:=fU h5
  rcases hj with⟨_,a2⟩ | ⟨a1,_⟩ <;> rcases h2 with⟨b1,b2⟩ | ⟨b1,b2⟩ <;> first | exact hy (by rw[<- a2,b2];assumption) | exact hy (by rw[<- a1,b1];assumption)
theorem Gr.bd (h:Gr L s f m):∀k∈m.map Ah,k<L.length:=λk hk=>by
 obtain⟨⟨y,k'⟩,hm,rfl⟩:=bj.mp hk
 obtain⟨e,x,d,h1,_⟩:=h.step y k' hm
 exact(au.mp h1).1
theorem eA:∀(L M:List Nat),L.Nodup->(∀x∈L,x∈M)->L.length<=M.length
 |[],_,_,_=>bc _
 |a :: L,M,nd,h=>by
  have ha:=h a (by simp)
  have nd':=de.mp nd
  have:=eA L (M.erase a) nd'.2 λx hx=>by
   have hne:x≠a:=λe=>nd'.1 (by subst e;exact hx)
   exact(List.mem_erase_of_ne hne).mpr (h x (ar _ hx))
  rw[List.length_erase_of_mem ha] at this
  have hp:0<M.length:=List.length_pos_of_mem ha
  rw[bq]
  omega
theorem Gr.all (h:Gr L s f m)(hl:f.length=L.length+1){k:Nat}(hk:k<L.length):∃y,(y,k)∈m:=by
 apply ez
 intro c
 have nk:k∉m.map Ah:=λz=>by
  obtain⟨⟨y,k'⟩,hm,rfl⟩:=bj.mp z
  exact c ⟨y,hm⟩
 have:=eA (k :: m.map Ah) (aw L.length) (de.mpr ⟨nk,h.edges⟩) λx hx=>by
  rcases b6.mp hx with rfl | hx
  ·exact cf.mpr hk
  ·exact cf.mpr (h.bd x hx)
 rw[bq,ai,cz] at this
 have:=h.len
 omega
theorem jX {α β:Type}:∀{l:List (α×β)},(l.map ub).Nodup->∀{x:α}{a b:β},(x,a)∈l->(x,b)∈l->a=b
 |[],_,_,_,_,h,_=>by cases h
 |p :: l,nd,x,a,b,h1,h2=>by
  rw[b8,de] at nd
  rcases b6.mp h1 with e1 | h1 <;> rcases b6.mp h2 with e2 | h2
  ·rw[<- e1] at e2;cases e2;rfl
  ·exact absurd (by rw[<- e1];exact bj.mpr ⟨_,h2,rfl⟩) nd.1
  ·exact absurd (by rw[<- e2];exact bj.mpr ⟨_,h1,rfl⟩) nd.1
  ·exact jX nd.2 h1 h2
theorem aBM (hf:Gr L s f m)(hg:Gr L s g m')(lg:g.length=L.length+1):(∀p∈f,p∈g)/\∀q∈m,q∈m':=by
 have ndg:(g.map ub).Nodup:=hg.nd
 have ndm:(m'.map ub).Nodup:=by
  have:=hg.nd
  rw[hg.keys,de] at this
  exact this.2
 have sm:∀k,(s,k)∉m':=λk hk=>by
  have:=hg.nd
  rw[hg.keys,de] at this
  exact this.1 (bj.mpr ⟨_,hk,rfl⟩)
 induction hf with
 |one=>exact⟨λp hp=>by rw[bb.mp hp];exact hg.zero,λq hq=>by cases hq⟩
 | @add f m x y k d e h0 hx hy he hj ih=>
  have hk:k<L.length:=(au.mp he).1
  obtain⟨v,hv⟩:=hg.all lg hk
  obtain⟨e',x',d',h1,h2,h3,h4,h5⟩:=hg.step v k hv
  rw[he] at h1
  cases h1
  have xy:x≠y:=λz=>hy (z ▸ fU hx)
  have key:(v=y/\x'=x)\/v=x:=by
   rcases hj with⟨a1,a2⟩ | ⟨a1,a2⟩ <;> rcases h2 with⟨b1,b2⟩ | ⟨b1,b2⟩
   ·exact .inl ⟨by omega,by omega⟩
   ·exact .inr (by omega)
   ·exact .inr (by omega)
   ·exact .inl ⟨by omega,by omega⟩
  rcases key with⟨rfl,rfl⟩ | rfl
  ·have dd:d'=d:=jX ndg h4 (ih.1 _ hx)
   subst dd
   refine⟨λp hp=>?_,λq hq=>?_⟩
   ·rcases b9.mp hp with hp | hp
    ·exact ih.1 p hp
    ·rw[bb.mp hp];exact h5
   ·rcases b9.mp hq with hq | hq
    ·exact ih.2 q hq
    ·rw[bb.mp hq];exact hv
  ·exfalso
   have hxs:v∈s :: m.map ub:=by rw[<- h0.keys];exact fU hx
   rcases b6.mp hxs with rfl | hxm
   ·exact sm k hv
   ·obtain⟨⟨v',k'⟩,hm,ev⟩:=bj.mp hxm
    have ev:v'=v:=ev
    subst ev
    have:=jX ndm hv (ih.2 _ hm)
    subst this
    have nd:=(Gr.add h0 hx hy he hj).edges
    rw[bu,mw] at nd
    exact nd.2.2 k (bj.mpr ⟨_,hm,rfl⟩) k (by simp) rfl
def scl (c:Int) (L:List Ed):List Ed:=L.map λe=>(e.1,e.2.1,e.2.2*c)
theorem Gr.scl {c:Int}(h:Gr L s f m):Gr (scl c L) s (f.map λp=>(p.1,p.2*c)) m:=by
 induction h with
 |one=>rw[show([(s,(0:Int))].map λp:Nat×Int=>(p.1,p.2*c))=[(s,0)] by simp];exact .one
 | @add f m x y k d e h0 hx hy he hj ih=>
  rw[bu]
  have:([(y,d+e.2.2)].map λp:Nat×Int=>(p.1,p.2*c))=[(y,d*c+e.2.2*c)]:=by simp[Int.add_mul]
  rw[this]
  refine .add (e:=(e.1,e.2.1,e.2.2*c)) ih (bj.mpr ⟨_,hx,rfl⟩) (λz=>hy ?_) (by unfold K64.scl;rw[az,he];rfl) hj
  unfold vs at z ⊢
  rw[fj] at z
  exact z
theorem aIX {L':List Ed}{a b:Int}(hf:Gr L s f m)(hg:Gr L' s g m')(e:scl a L=scl b L')(lg:g.length=L'.length+1){x:Nat}{d d':Int}(h1:(x,d)∈f)(h2:(x,d')∈g):d*a=d'*b:=by
 have hf':=hf.scl (c:=a)
 rw[e] at hf'
 have hg':=hg.scl (c:=b)
 have:=(aBM hf' hg' (by rw[ai,lg];unfold scl;rw[ai])).1 (x,d*a) (bj.mpr ⟨_,h1,rfl⟩)
 exact jX (show((g.map λp=>(p.1,p.2*b)).map ub).Nodup from hg'.nd) this (bj.mpr ⟨_,h2,rfl⟩)
def aJc (L:List (Nat×Nat)) (n:Nat):Prop:=∀x,x<n->Q.Cn L (aw n) 0 x
abbrev Fw:=List (Nat×Int)
def ks (f:Fw):List Nat:=f.map ub
def kvI (f:Fw):List (Key×V):=f.map λe=>(.inl (e.1:Int), .int e.2)
theorem mH {f:Fw}:(kvI f).length=f.length:=ai ..
theorem yS {x:Nat}:∀{f:Fw},(sE (kvI f) (.inl (x:Int))).isSome=decide (x∈ks f)
 |[]=>rfl
 | (y,o) :: f=>by
  by_cases e:y=x
  ·subst e
   rw[show kvI ((y,o) :: f)=(.inl (y:Int), .int o) :: kvI f from rfl,iR rfl]
   simp[ks]
  ·rw[show kvI ((y,o) :: f)=(.inl (y:Int), .int o) :: kvI f from rfl,jI (λh=>e (by have:=xx h;omega)),yS (f:=f)]
   have:(x∈ks ((y,o) :: f))↔x∈ks f:=by
    unfold ks
    rw[b8,b6]
    exact⟨λh=>h.resolve_left (λz=>e z.symm), .inr⟩
   exact decide_eq_decide.mpr this.symm
theorem fL {x:Nat}{p:Int}{f:Fw}(h:x∉ks f):pX (kvI f) (.inl (x:Int)) (.int p)=kvI (f++[(x,p)]):=by
 have:¬ ((kvI f).any λkv=>decide (kv.1=(.inl (x:Int):Key)))=true:=by
  intro c
  obtain⟨kv,hk,e⟩:=ny.mp c
  obtain⟨⟨y,o⟩,hy,rfl⟩:=bj.mp hk
  have e:(Sum.inl (y:Int):Key) = .inl (x:Int):=of_decide_eq_true e
  have:=xx e
  exact h (bj.mpr ⟨_,hy,by show y=x;omega⟩)
 unfold pX
 rw[if_neg this]
 unfold kvI
 rw[bu]
 rfl
theorem lA {f:Fw}{x:Nat}{p:Int}:ks (f++[(x,p)])=ks f++[x]:=by unfold ks;rw[bu];rfl
structure Di (L:List (Nat×Nat))(n:Nat)(f:Fw)(ws:List Nat)(u:Option (Nat×Nat)):Prop where
 nd:(ks f).Nodup
 lt:∀x∈ks f,x<n
 cn:∀x∈ks f,Q.Cn L (aw n) 0 x
 zero:0∈ks f
 sub:∀w∈ws,w∈ks f
 cl:∀x∈ks f,x∉ws->(∀p,u=some p->x≠p.1)->∀e∈L,(e.1=x->e.2∈ks f)/\(e.2=x->e.1∈ks f)
 own:∀p,u=some p->p.1∈ks f/\∀e∈L.take p.2,(e.1=p.1->e.2∈ks f)/\(e.2=p.1->e.1∈ks f)
section
variable {L:List (Nat×Nat)}{n:Nat}{f:Fw}{ws:List Nat}
theorem Di.len (h:Di L n f ws none):f.length<=n:=by
 have:=eA (ks f) (aw n) h.nd λx hx=>cf.mpr (h.lt x hx)
 unfold ks at this
 rwa[ai,cz] at this
theorem Di.start (h0:0<n){p:Int}:Di L n [(0,p)] [0] none:=by
 refine⟨by simp[ks],λx hx=>?_,λx hx=>?_,by simp[ks],λw hw=>by simpa[ks] using hw,λx hx hw=>?_,λp e=>by cases e⟩
 ·have:x=0:=by simpa[ks] using hx
  omega
 ·have:x=0:=by simpa[ks] using hx
  rw[this]
  exact .refl _
 ·have:x=0:=by simpa[ks] using hx
  exact absurd (by simp[this]) hw
end
section
variable {K:aa}
theorem lN {te:TE}{i:Nat}{rest:TS}{D:hU}{σ:St}{H:Hp}(h:te σ H (λv H2=>rest D (σ.set i (some v)) H2)):aT (bU te (aI i)) rest D σ H:=h
end
def zU (q:Tq):List Int:=[(q.1:Int),(q.2.1:Int),q.2.2.1,q.2.2.2]
def aKU:List Int->Dt
 |[a,b,c,d] => .tup [.int a, .int b, .tup [.int c, .int d]]
 |_ => .non
abbrev Srt (R:List (List Int)):Prop:=R.Pairwise (λa b=>dA b a=false)
def Dn (k:Nat) (d:Dt):Prop:=∃qs:List Tq,d = .tup (qs.map pA)/\k<=qs.length+1/\qs.length+1<=14/\(∀q∈qs,aBy (qs.length+1) q)/\Srt (qs.map zU)/\aJc (qs.map pr) (qs.length+1)
theorem xU:∀{p q:List Tq},p.map pA=q.map pA->p=q
 |[],[],_=>rfl
 |[],_ :: _,h=>by simp at h
 |_ :: _,[],h=>by simp at h
 |a :: p,b :: q,h=>by
  rw[b8,b8,vx] at h
  rw[aDp h.1,xU h.2]
theorem aFo {k:Nat}{qs:List Tq}:Dn k (.tup (qs.map pA))↔k<=qs.length+1/\qs.length+1<=14/\(∀q∈qs,aBy (qs.length+1) q)/\Srt (qs.map zU)/\aJc (qs.map pr) (qs.length+1):=by
 constructor
 ·rintro⟨qs',e,h⟩
  simp only[Dt.tup.injEq] at e
  obtain rfl:=xU e
  exact h
 ·intro h
  exact⟨qs,rfl,h⟩
theorem aLk (n:Nat):(pW 0 (n:Int)).map V.int=(aw n).map bW:=by
 unfold pW
 rw[show((n:Int) - 0).toNat=n by omega,fj]
 refine fe λi _=>?_
 show V.int (0+(i:Int))=V.int (i:Int)
 congr 1;omega
section
variable {K:aa}
theorem uA {H:Hp}:∀{xs:List V}{R:List (List Int)},iI K H xs R->ShL K H (R.map aKU) xs
 |[],[],_=>rfl
 |[],_ :: _,h=>by cases h.1
 |_ :: _,[],h=>by cases h.1
 |x :: xs,r :: R,h=>by
  obtain⟨b,e,g,a,c,t,z,rfl,hb,hg⟩:=h.2 0 r rfl
  obtain rfl:x = .ref b:=by simpa using e
  exact⟨.ref b,xs,rfl,⟨b,_,rfl,hb, .int a,_,rfl,rfl, .int c,_,rfl,rfl, .ref g,_,rfl,⟨g,_,rfl,hg, .int t,_,rfl,rfl, .int z,_,rfl,rfl,rfl⟩,rfl⟩,uA ⟨by simpa using h.1,λi row hr=>h.2 (i+1) row hr⟩⟩
theorem iH {H H':Hp}{xs:List V}{R:List (List Int)}(h:iI K H xs R)(s:Same H H'):iI K H' xs R:=⟨h.1,λi row hr=>let⟨b,e,g,a,c,t,z,er,hb,hg⟩:=h.2 i row hr;⟨b,e,g,a,c,t,z,er,s.tup hb,s.tup hg⟩⟩
end
def pE (L:List Ed):List (Nat×Nat):=L.map λe=>(e.1,e.2.1)
structure Tre (L:List Ed):Prop where
 ok:∀e∈L,e.1<e.2.1/\e.2.1<=L.length
 cn:aJc (pE L) (L.length+1)
section
variable {L L':List Ed}{s:Nat}{f g:List (Nat×Int)}{m m':List (Nat×Nat)}
theorem Gr.lt (t:Tre L)(hs:s<=L.length)(h:Gr L s f m):∀x∈vs f,x<L.length+1:=by
 induction h with
 |one=>
  intro x hx
  have:x=s:=by simpa[vs] using hx
  omega
 | @add f m x y k d e h0 hx hy he hj ih=>
  intro z hz
  rw[jP] at hz
  rcases b9.mp hz with hz | hz
  ·exact ih z hz
  ·have hz:z=y:=by simpa using hz
   have:=t.ok e (cb he)
   rcases hj with⟨a1,a2⟩ | ⟨a1,a2⟩ <;> omega
theorem pH (t:Tre L)(hs:s<=L.length)(h:Gr L s f m)(cl:∀e∈L,e.1∈vs f↔e.2.1∈vs f):f.length=L.length+1:=by
 have ad:∀x y,Q.adj (pE L) x y->(x∈vs f↔y∈vs f):=λx y ha=>by
  have ha:(min x y,max x y)∈pE L:=ha
  obtain⟨e,he,ee⟩:=bj.mp ha
  have e1:e.1=min x y:=congrArg ub ee
  have e2:e.2.1=max x y:=congrArg Ah ee
  have c:=cl e he
  rw[e1,e2] at c
  by_cases hxy:x<=y
  ·rwa[zp hxy,Nat.max_eq_right hxy] at c
  ·rw[Nat.min_eq_right (by omega),Nat.max_eq_left (by omega)] at c
   exact c.symm
 have cc:∀x y,Q.Cn (pE L) (aw (L.length+1)) x y->(x∈vs f↔y∈vs f):=λx y hc=>by
  induction hc with
  |refl=>exact Iff.rfl
  |step _ _ _ c ih=>exact ih.trans (ad _ _ c)
 have s0:s∈vs f:=fU h.zero
 have z0:=(cc 0 s (t.cn s (by omega))).mpr s0
 have al:∀x,x<L.length+1->x∈vs f:=λx hx=>(cc 0 x (t.cn x hx)).mp z0
 have l1:=eA (aw (L.length+1)) (vs f) iu λx hx=>al x (cf.mp hx)
 have l2:=eA (vs f) (aw (L.length+1)) h.nd λx hx=>cf.mpr (h.lt t hs x hx)
 have l3:(vs f).length=f.length:=ai ..
 rw[cz] at l1 l2
 omega
theorem Gr.has (t:Tre L)(hs:s<=L.length)(h:Gr L s f m)(hl:f.length=L.length+1){x:Nat}(hx:x<L.length+1):x∈vs f:=by
 apply ez
 intro c
 have:=eA (x :: vs f) (aw (L.length+1)) (de.mpr ⟨c,h.nd⟩) λy hy=>by
  rcases b6.mp hy with rfl | hy
  ·exact cf.mpr hx
  ·exact cf.mpr (h.lt t hs y hy)
 have l3:(vs f).length=f.length:=ai ..
 rw[bq,cz] at this
 omega
theorem kO (t:Tre L)(hs:s<=L.length):∃f m,Gr L s f m/\f.length=L.length+1:=by
 have key:∀k,k<=L.length->∃f m,Gr L s f m/\f.length=k+1:=by
  intro k
  induction k with
  |zero=>exact λ_=>⟨_,_, .one,rfl⟩
  |succ k ih=>
   intro hk
   obtain⟨f,m,h,hl⟩:=ih (by omega)
   apply ez
   intro c
   have:f.length=L.length+1:=pH t hs h λe he=>by
    obtain⟨j,hj⟩:=j4.mp he
    constructor
    ·intro h1
     apply ez
     intro h2
     obtain⟨⟨x,d⟩,hd,ex⟩:=bj.mp h1
     have ex:x=e.1:=ex
     exact c ⟨_,_,h.add hd h2 hj (.inl ⟨ex.symm,rfl⟩),by rw[ao,hl];rfl⟩
    ·intro h1
     apply ez
     intro h2
     obtain⟨⟨x,d⟩,hd,ex⟩:=bj.mp h1
     have ex:x=e.2.1:=ex
     exact c ⟨_,_,h.add hd h2 hj (.inr ⟨rfl,ex.symm⟩),by rw[ao,hl];rfl⟩
   omega
 exact key L.length (ay _)
open Classical in
def wy (L:List Ed) (s x:Nat):Int:=if h:∃(d:Int) (f:List (Nat×Int)) (m:List (Nat×Nat)),Gr L s f m/\f.length=L.length+1/\(x,d)∈f then h.choose else 0
theorem aAp {x:Nat}{d:Int}(h:Gr L s f m)(hl:f.length=L.length+1)(hx:(x,d)∈f):d=wy L s x:=by
 have e:∃(d:Int) (f:List (Nat×Int)) (m:List (Nat×Nat)),Gr L s f m/\f.length=L.length+1/\(x,d)∈f:=⟨d,f,m,h,hl,hx⟩
 unfold wy
 rw[dif_pos e]
 obtain⟨f',m',h',hl',hx'⟩:=e.choose_spec
 exact jX h.nd hx ((aBM h' h hl).1 _ hx')
theorem aEQ {a b:Int}{x:Nat}(t:Tre L)(t':Tre L')(hl:L'.length=L.length)(hs:s<=L.length)(hx:x<=L.length)(e:scl a L=scl b L'):wy L s x*a=wy L' s x*b:=by
 obtain⟨f,m,h,l⟩:=kO t hs
 obtain⟨g,m',h',l'⟩:=kO (s:=s) t' (by omega)
 obtain⟨⟨x1,d⟩,hd,ex⟩:=bj.mp (h.has t hs l (x:=x) (by omega))
 obtain⟨⟨x2,d'⟩,hd',ex'⟩:=bj.mp (h'.has t' (by omega) l' (x:=x) (by omega))
 have ex:x1=x:=ex
 have ex':x2=x:=ex'
 subst ex ex'
 rw[<- aAp h l hd,<- aAp h' l' hd']
 exact aIX h h' e l' hd hd'
end
def bdw (d c:Int):Prop:=d % c≠0\/1000000*c<d
def wb (q:Tq):Int:=q.2.2.2
def wt (q:Tq):Int:=q.2.2.1
def sc (qs:List Tq):Int:=qs.foldl (λc q=>c*wb q) 1
theorem aBq {g:Int->Tq->Int}(hg:∀c q,0<c->1<=wb q->c ∣ g c q/\wb q ∣ g c q/\0<g c q/\g c q<=c*wb q):∀(qs:List Tq) (c:Int),0<c->(∀q∈qs,1<=wb q/\wb q<2 ^ 104)->c ∣ qs.foldl g c/\0<qs.foldl g c/\qs.foldl g c<=c*(2 ^ 104) ^ qs.length/\∀q∈qs,wb q ∣ qs.foldl g c
 |[],c,hc,_=>⟨Int.dvd_refl _,hc,by simp,by simp⟩
 |q :: qs,c,hc,h=>by
  obtain⟨h1,h2⟩:=h q (by simp)
  obtain⟨g1,g2,g3,g4⟩:=hg c q hc h1
  obtain⟨i1,i2,i3,i4⟩:=aBq hg qs (g c q) g3 λx hx=>h x (ar _ hx)
  rw[zk]
  refine⟨Int.dvd_trans g1 i1,i2,?_,λx hx=>?_⟩
  ·have a1:g c q<=c*2 ^ 104:=Int.le_trans g4 (uj (by omega) (by omega))
   rw[bq,Int.pow_succ]
   have a2:(0:Int)<=(2 ^ 104) ^ qs.length:=ue (Int.pow_pos (by decide))
   have:=Int.mul_le_mul_of_nonneg_right a1 a2
   rw[uf ((2 ^ 104) ^ qs.length) (2 ^ 104),<- i7]
   exact Int.le_trans i3 this
  ·rcases b6.mp hx with rfl | hx
   ·exact Int.dvd_trans g2 i1
   ·exact i4 x hx
theorem aGi (c:Int)(q:Tq)(hc:0<c)(hq:1<=wb q):c ∣ c*wb q/\wb q ∣ c*wb q/\0<c*wb q/\c*wb q<=c*wb q:=
 ⟨Int.dvd_mul_right _ _,Int.dvd_mul_left _ _,Int.mul_pos hc (by omega),nc _⟩
structure Wq (qs:List Tq):Prop where
 len:qs.length<=13
 ok:∀q∈qs,0<=wt q/\wt q<2 ^ 104/\1<=wb q/\wb q<2 ^ 104
theorem Wq.take {qs:List Tq}(h:Wq qs)(i:Nat):Wq (qs.take i):=⟨by have:=h.len;rw[fg];omega,λq hq=>h.ok q (uv hq)⟩
theorem big {c:Int}{k:Nat}(h:c<=1*(2 ^ 104) ^ k)(hk:k<=13):c<2 ^ 1400:=by
 rw[Int.one_mul,<- Int.pow_mul] at h
 have:(2:Int) ^ (104*k)<=2 ^ 1352:=by
  have:(2:Nat) ^ (104*k)<=2 ^ 1352:=uw (by decide) (by omega)
  exact_mod_cast this
 have h2:(2:Int) ^ 1352<2 ^ 1400:=by decide
 omega
theorem zO {qs:List Tq}(h:Wq qs):0<sc qs/\sc qs<2 ^ 1400/\∀q∈qs,wb q ∣ sc qs:=by
 obtain⟨_,a,b,c⟩:=aBq aGi qs 1 (by decide) λq hq=>(h.ok q hq).2.2
 exact⟨a,big b h.len,c⟩
theorem aGW {qs:List Tq}{q:Tq}:sc (qs++[q])=sc qs*wb q:=by unfold sc;rw[List.foldl_append];rfl
def Ll (qs:List Tq):List Ed:=qs.map λq=>(q.1,q.2.1,wt q*sc qs / wb q)
structure Tr (qs:List Tq):Prop extends Wq qs where
 tie:∀q∈qs,q.1<q.2.1/\q.2.1<=qs.length
 cn:aJc (qs.map pr) (qs.length+1)
theorem oV {qs:List Tq}(h:Tr qs)(g:Tq->Int):Tre (qs.map λq=>(q.1,q.2.1,g q)):=by
 constructor
 ·intro e he
  obtain⟨q,hq,rfl⟩:=bj.mp he
  rw[ai]
  exact h.tie q hq
 ·have:pE (qs.map λq=>(q.1,q.2.1,g q))=qs.map pr:=by unfold pE;rw[fj];rfl
  rw[this,ai]
  exact h.cn
section
variable {K:aa}
theorem nb {c:Int}(h0:0<=c)(h:c<2 ^ 1400):c.natAbs<2 ^ 8000:=by
 obtain⟨n,rfl⟩:=yf h0
 rw[Int.natAbs_natCast]
 have h1:n<2 ^ 1400:=by exact_mod_cast h
 exact cy h1 (uw (by decide) (by decide))
theorem nb1 {c:Int}(h0:0<=c)(h:c<2 ^ 104):c.natAbs<2 ^ 8000:=nb h0 (Int.lt_trans h (by exact_mod_cast Nat.pow_lt_pow_right (show 1<2 by decide) (show 104<1400 by decide)))
theorem Gr.le {L:List Ed}{s:Nat}{f:List (Nat×Int)}{m:List (Nat×Nat)}(t:Tre L)(hs:s<=L.length)(h:Gr L s f m):f.length<=L.length+1:=by
 have l2:=eA (vs f) (aw (L.length+1)) h.nd λx hx=>cf.mpr (h.lt t hs x hx)
 have l3:(vs f).length=f.length:=ai ..
 rw[cz] at l2
 omega
theorem qL {x:Nat}{f:Fw}(h:x∈ks f):∃o:Int,sE (kvI f) (.inl (x:Int))=some (.int o)/\(x,o)∈f:=by
 induction f with
 |nil=>cases h
 |cons p f ih=>
  obtain⟨y,o⟩:=p
  by_cases e:y=x
  ·subst e
   exact⟨o,by rw[show kvI ((y,o) :: f)=(.inl (y:Int), .int o) :: kvI f from rfl,iR rfl],by simp⟩
  ·have h':x∈ks f:=by
    unfold ks at h ⊢
    rw[b8,b6] at h
    exact h.resolve_left (λz=>e z.symm)
   obtain⟨o',h1,h2⟩:=ih h'
   exact⟨o',by rw[show kvI ((y,o) :: f)=(.inl (y:Int), .int o) :: kvI f from rfl,jI (λh=>e (by have:=xx h;omega))];exact h1,ar _ h2⟩
theorem aAG {H:Hp}{d:Addr}{f:Fw}{x:Nat}{o:Int}(h:H d=some (.dK (kvI f)))(e:sE (kvI f) (.inl (x:Int))=some (.int o)):DGet H d (.int (x:Int)) (some (.int o)):=by
 have:=DGet.k (k := .inl (x:Int)) h
 rw[e] at this
 exact this
theorem yT {x y:Int}:(!eqD (.int x) (.int y)) = !decide (x=y):=by rw[dP]
def aEI (L:List Ed) (s:Nat) (c:Int) (n:Nat):List Int:=(aw n).map λx=>wy L s x / c
end
def rwL (L:List Ed):List (List Int):=L.map λe=>[(e.1:Int),(e.2.1:Int),e.2.2]
theorem aCX {L:List Ed}:(rwL L).length=L.length:=ai ..
structure Dj (L:List Ed)(s:Nat)(f:Fw)(ws:List Nat)(u:Option (Nat×Nat)):Prop where
 gr:∃m,Gr L s f m
 sub:∀w∈ws,w∈ks f
 cl:∀x∈ks f,x∉ws->(∀p,u=some p->x≠p.1)->∀e∈L,(e.1=x->e.2.1∈ks f)/\(e.2.1=x->e.1∈ks f)
 own:∀p,u=some p->p.1∈ks f/\∀e∈L.take p.2,(e.1=p.1->e.2.1∈ks f)/\(e.2.1=p.1->e.1∈ks f)
section
variable {L:List Ed}{s:Nat}{f:Fw}{ws:List Nat}
theorem Dj.start:Dj L s [(s,0)] [s] none:=by
 refine⟨⟨_, .one⟩,λw hw=>by simpa[ks] using hw,λx hx hw=>?_,λp e=>by cases e⟩
 have:x=s:=by simpa[ks] using hx
 exact absurd (by simp[this]) hw
theorem Dj.pop {u:Nat}(h:Dj L s f (ws++[u]) none):Dj L s f ws (some (u,0)):=by
 refine⟨h.gr,λw hw=>h.sub w (ck _ hw),λx hx hw hp=>h.cl x hx (λhm=>?_) (λp e=>by cases e),λp e=>?_⟩
 ·rcases b9.mp hm with hm | hm
  ·exact hw hm
  ·exact hp _ rfl (bb.mp hm)
 ·cases e
  exact⟨h.sub u (by simp),λe he=>by simp at he⟩
theorem Dj.next {u i:Nat}{e:Ed}(h:Dj L s f ws (some (u,i)))(he:L[i]?=some e)(h1:e.1=u->e.2.1∈ks f)(h2:e.2.1=u->e.1∈ks f):Dj L s f ws (some (u,i+1)):=by
 refine⟨h.gr,h.sub,λx hx hw hp=>h.cl x hx hw λp e=>by cases e;exact hp (u,i+1) rfl,λp e'=>?_⟩
 cases e'
 obtain⟨a,b⟩:=h.own _ rfl
 refine⟨a,λe2 he2=>?_⟩
 rw[iz,he] at he2
 rcases b9.mp he2 with he2 | he2
 ·exact b e2 he2
 ·obtain rfl:e2=e:=by simpa using he2
  exact⟨h1,h2⟩
theorem Dj.add {u i w:Nat}{o:Int}{e:Ed}(h:Dj L s f ws (some (u,i)))(hm:(u,o)∈f)(hw:w∉ks f)(he:L[i]?=some e)(hj:Jo e u w):Dj L s (f++[(w,o+e.2.2)]) (ws++[w]) (some (u,i)):=by
 obtain⟨o1,o2⟩:=h.own _ rfl
 obtain⟨m,gr⟩:=h.gr
 have mono:∀x,x∈ks f->x∈ks (f++[(w,o+e.2.2)]):=λx hx=>by rw[lA];exact ck _ hx
 refine⟨⟨_,gr.add hm hw he hj⟩,λy hy=>?_,λx hx hnw hp=>?_,λq e=>?_⟩
 ·rcases b9.mp hy with hy | hy
  ·exact mono _ (h.sub y hy)
  ·rw[lA];exact dk _ hy
 ·rw[lA] at hx
  rcases b9.mp hx with hx | hx
  ·intro e he
   obtain⟨a,b⟩:=h.cl x hx (λz=>hnw (ck _ z)) hp e he
   exact⟨λz=>mono _ (a z),λz=>mono _ (b z)⟩
  ·exact absurd (dk _ hx) hnw
 ·cases e
  refine⟨mono _ o1,λe he=>?_⟩
  obtain⟨a,b⟩:=o2 e he
  exact⟨λz=>mono _ (a z),λz=>mono _ (b z)⟩
theorem Dj.done {u:Nat}(h:Dj L s f ws (some (u,L.length))):Dj L s f ws none:=by
 obtain⟨o1,o2⟩:=h.own _ rfl
 refine⟨h.gr,h.sub,λx hx hw _=>?_,λp e=>by cases e⟩
 by_cases c:x=u
 ·subst c
  intro e he
  exact o2 e (by rw[k7];exact he)
 ·exact h.cl x hx hw λp e=>by cases e;exact c
theorem Dj.len {u:Option (Nat×Nat)}(h:Dj L s f ws u)(t:Tre L)(hs:s<=L.length):f.length<=L.length+1:=let⟨_,g⟩:=h.gr;g.le t hs
theorem Dj.all (h:Dj L s f [] none)(t:Tre L)(hs:s<=L.length):f.length=L.length+1:=by
 obtain⟨m,gr⟩:=h.gr
 refine pH t hs gr λe he=>⟨λh1=>?_,λh1=>?_⟩
 ·exact(h.cl e.1 h1 (by simp) (λp e=>by cases e) e he).1 rfl
 ·exact(h.cl e.2.1 h1 (by simp) (λp e=>by cases e) e he).2 rfl
end
section
variable {K:aa}
inductive aEM (K : aa) (vs : List V) (H : Hp) (Q : VK) : Prop
 |mk (t : Addr) (ys : List V) (L : List Ed) (s : Nat) (h0 : vs = [.ref t, .int (s : Int)]) (h1 : H t = some (.lst ys)) (h2 : Rows K H ys (rwL L)) (h3 : Tre L) (h4 : L.length <= 13) (h5 : s <= L.length) (h6 : ∀d f m H', Same H H' -> H' d = some (.dK (kvI f)) -> Gr L s f m -> f.length = L.length + 1 -> Q (.ref d) H') : aEM K vs H Q
def aKw (K:aa):Sp:=λvs H Q _=>aEM K vs H Q
theorem aHV:∀vs H Q E,aKw K vs H Q E->fJ K { nx:=λ_ H'=>Q .non H',rt:=Q } (start ["ties","place","found","waiting","here","one","other","more"] vs) H:=by
 intro vs H Q E h
 obtain⟨t,ys,L,s,rfl,ht,hR,tre,l13,hs,q⟩:=h
 have yl:ys.length=L.length:=by rw[hR.1,aCX]
 unfold fJ
 refine lN ?_
 intro d hd0
 refine⟨_,rfl,aD,[(.inl (s:Int), .int 0)],rfl,show 1<=15 by decide,?_⟩
 have e9:nB [] [((.inl (s:Int):Key),V.int 0)]=kvI [(s,0)]:=by rfl
 rw[e9]
 have s0:Same H (upd (upd H d (.dK [])) d (.dK (kvI [(s,0)]))):=dQ hd0 (aG hd0 _)
 have g0:(upd (upd H d (.dK [])) d (.dK (kvI [(s,0)]))) d=some (.dK (kvI [(s,0)])):=aD
 generalize upd (upd H d (.dK [])) d (.dK (kvI [(s,0)]))=G at s0 g0 ⊢
 refine lN ?_
 refine⟨_,rfl,show 1<=ba by decide,λw hw=>?_⟩
 have hw0:H w=none:=by
  cases e:H w with
  |none=>rfl
  |some o=>rw[s0 _ _ e] at hw;cases hw
 have hdw:d≠w:=aK g0 hw
 refine⟨λm σ' H'=>∃(f:Fw) (ws:List Nat) (x4 x5 x6 x7:Option V),m=2*((L.length+1) - f.length)+ws.length/\σ'=[some (.ref t),some (.int (s:Int)),some (.ref d),some (.ref w),x4,x5,x6,x7]/\Same H H'/\H' d=some (.dK (kvI f))/\H' w=some (.lst (ws.map bW))/\Dj L s f ws none/\ws.length<=f.length,⟨_,[(s,0)],[s],none,none,none,none,rfl,rfl,s0.trans (aG hw _),by rw[aL hdw];exact g0,aD,Dj.start,ay _⟩,?_⟩
 rintro m σ1 H1 ⟨f,ws,x4,x5,x6,x7,rfl,rfl,s1,g1,w1,di,wfl⟩
 refine⟨_,rfl,bc _,λz hz=>?_⟩
 have sz:=aG hz (.lst [])
 refine⟨.lst ((ws.map λp:Nat=>(p:Int)).map Dt.int), .lst [],wQ _,⟨w,_,rfl, .of (sz _ _ w1),by rw[lY];exact ShL.ints _⟩,⟨z,_,rfl, .of aD,rfl⟩,_,rfl,?_⟩
 have en:(!eqD (.lst ((ws.map λp:Nat=>(p:Int)).map Dt.int)) (.lst [])) = !ws.isEmpty:=by
  rw[eqD]
  cases ws with
  |nil=>rfl
  |cons a ws=>simp[eqL]
 rw[en]
 have s1z:=s1.trans sz
 have g1z:=sz _ _ g1
 have w1z:=sz _ _ w1
 generalize upd H1 z (.lst [])=H2 at s1z g1z w1z ⊢
 by_cases c:ws=[]
 ·subst c
  obtain⟨m,gr⟩:=di.gr
  exact cB rfl ⟨_,rfl,q d _ m H2 s1z g1z gr (di.all tre hs)⟩
 ·obtain⟨ws',u,rfl⟩:∃ws' u,ws=ws'++[u]:=⟨ws.dropLast,ws.getLast c,(List.dropLast_concat_getLast c).symm⟩
  have fl:=di.len tre hs
  rw[ao] at wfl
  simp only[bq,qw] at wfl
  refine cD (by simp) ⟨λσ' H'=>∃m',m'<2*((L.length+1) - f.length)+(ws'++[u]).length/\∃(f:Fw) (ws:List Nat) (x4 x5 x6 x7:Option V),m'=2*((L.length+1) - f.length)+ws.length/\σ'=[some (.ref t),some (.int (s:Int)),some (.ref d),some (.ref w),x4,x5,x6,x7]/\Same H H'/\H' d=some (.dK (kvI f))/\H' w=some (.lst (ws.map bW))/\Dj L s f ws none/\ws.length<=f.length,λ_ _ h=>h,?_⟩
  refine lN ?_
  refine⟨_,rfl, .inl ⟨rfl,_, .of w1z⟩,w,_,bW u,rfl,rfl,w1z,by rw[bu];simp,?_⟩
  have dl:((ws'++[u]).map bW).dropLast=ws'.map bW:=by rw[bu];exact List.dropLast_concat
  rw[dl]
  have s3:Same H (upd H2 w (.lst (ws'.map bW))):=dQ hw0 s1z
  have g3:(upd H2 w (.lst (ws'.map bW))) d=some (.dK (kvI f)):=by rw[aL hdw];exact g1z
  have w3:(upd H2 w (.lst (ws'.map bW))) w=some (.lst (ws'.map bW)):=aD
  generalize upd H2 w (.lst (ws'.map bW))=H3 at s3 g3 w3 ⊢
  refine⟨_,rfl,t,rfl, .inl ⟨⟨_, .of (s3 _ _ ht)⟩,?_⟩⟩
  refine gS (K:=K) (a:=t) (xs:=ys) (λi σ' H'=>i<=L.length/\∃(f':Fw) (ws2:List Nat) (x5 x6 x7:Option V),σ'=[some (.ref t),some (.int (s:Int)),some (.ref d),some (.ref w),some (bW u),x5,x6,x7]/\Same H H'/\H' d=some (.dK (kvI f'))/\H' w=some (.lst (ws2.map bW))/\Dj L s f' ws2 (some (u,i))/\f.length<=f'.length/\ws2.length+f.length=ws'.length+f'.length) ⟨bc _,f,ws',_,_,_,rfl,s3,g3,w3,di.pop,ay _,rfl⟩ (λi σ' H' _ ⟨_,_,_,_,_,_,_,s,_⟩ => .of (s _ _ ht)) (λi x σ4 H4 hx ⟨_,f',ws2,y5,y6,y7,es,s4,g4,w4,d4,f1,f2⟩=>?_) λσ4 H4 ⟨_,f',ws2,y5,y6,y7,es,s4,g4,w4,d4,f1,f2⟩=>?_
  ·subst es
   have hi:i<L.length:=by rw[<- yl];exact(au.mp hx).1
   have he:L[i]?=some L[i]:=ah hi
   obtain⟨b,e1,e2⟩:=(hR.same s4).2 i [(L[i].1:Int),(L[i].2.1:Int),L[i].2.2] (by unfold rwL;rw[az,he];rfl)
   rw[hx] at e1
   cases e1
   have hok:=tre.ok L[i] (dz hi)
   generalize L[i]=e at he e2 hok
   obtain⟨p,r,wy⟩:=e
   have hok:p<r/\r<=L.length:=hok
   refine⟨b,_,rfl,e2,rfl, .int (p:Int),[.int (r:Int), .int wy],rfl, .int (r:Int),[.int wy],rfl, .int wy,[],rfl,rfl,?_⟩
   refine⟨_,rfl,_,rfl,_,rfl,show 2<=ba by decide,λtt htt=>?_⟩
   have st:=aG htt (.tup [V.int (p:Int), .int (r:Int)])
   have hin:∀P:VK,P (.bl (decide (u=p\/u=r))) (upd H4 tt (.tup [V.int (p:Int), .int (r:Int)]))->aJf K false (bW u) (.ref tt) (upd H4 tt (.tup [V.int (p:Int), .int (r:Int)])) P:=λP hP=>K64.Q.in_list (q:=[p,r]) (.inr (.of aD)) (by
    show P (.bl (decide (u∈[p,r]))) _
    rw[show decide (u∈[p,r])=decide (u=p\/u=r) from decide_eq_decide.mpr (by simp)]
    exact hP)
   refine hin _ ⟨_,rfl,?_⟩
   have s5:=s4.trans st
   have g5:=st _ _ g4
   have w5:=st _ _ w4
   generalize upd H4 tt (.tup [V.int (p:Int), .int (r:Int)])=H5 at s5 g5 w5 ⊢
   by_cases cu:u=p\/u=r
   ·refine cD (decide_eq_true cu) ?_
    obtain⟨v,ev,hv,hjo⟩:∃v:Nat,(p:Int)+(r:Int) - (u:Int)=(v:Int)/\((u=p/\v=r)\/(u=r/\v=p))/\Jo (p,r,wy) u v:=by
     rcases cu with rfl | rfl
     ·exact⟨r,by omega, .inl ⟨rfl,rfl⟩, .inl ⟨rfl,rfl⟩⟩
     ·exact⟨p,by omega, .inr ⟨rfl,rfl⟩, .inr ⟨rfl,rfl⟩⟩
    have fl':=d4.len tre hs
    refine⟨_,rfl,_,rfl,_,rfl,?_⟩
    show vN (.int ((p:Int)+(r:Int))) (bW u) H5 _
    refine⟨_,_,rfl,rfl,?_⟩
    rw[ev]
    refine⟨_,rfl,d,_,rfl,DGet.k (k := .inl (v:Int)) g5,_,rfl,?_⟩
    rw[yS]
    by_cases cv:v∈ks f'
    ·refine cB (by rw[decide_eq_true cv];rfl) ⟨hi,f',ws2,_,_,_,rfl,s5,g5,w5,d4.next he (λe=>?_) (λe=>?_),f1,f2⟩
     ·have e:p=u:=e
      rcases hv with⟨_,rfl⟩ | ⟨h1,_⟩
      ·exact cv
      ·omega
     ·have e:r=u:=e
      rcases hv with⟨h1,_⟩ | ⟨_,rfl⟩
      ·omega
      ·exact cv
    ·refine cD (by rw[decide_eq_false cv];rfl) ?_
     obtain⟨ou,hou,hom⟩:=qL (d4.own _ rfl).1
     refine⟨_,rfl,_,rfl,d,_,rfl,(by have:=DGet.k (k := .inl (u:Int)) g5;rw[hou] at this;exact this),_,rfl,?_⟩
     show aF 2 _ H5 _
     refine⟨_,rfl,_,rfl,_,rfl,_,rfl,?_⟩
     show vN (.int ((p:Int)+(r:Int))) (bW u) H5 _
     refine⟨_,_,rfl,rfl,?_⟩
     rw[ev]
     refine⟨d,_,rfl,DPut.k (k := .inl (v:Int)) g5 (cw (show(kvI f').length<=14 by rw[mH];omega) (by decide)),?_⟩
     rw[fL cv]
     have hwd:=hdw.symm
     have w6:(upd H5 d (.dK (kvI (f'++[(v,ou+wy)])))) w=some (.lst (ws2.map bW)):=by rw[aL hwd];exact w5
     have s6:Same H (upd H5 d (.dK (kvI (f'++[(v,ou+wy)])))):=dQ hd0 s5
     have g6:(upd H5 d (.dK (kvI (f'++[(v,ou+wy)])))) d=some (.dK (kvI (f'++[(v,ou+wy)]))):=aD
     dsimp only
     generalize upd H5 d (.dK (kvI (f'++[(v,ou+wy)])))=H6 at w6 s6 g6 ⊢
     refine⟨_,rfl, .inl ⟨rfl,_, .of w6⟩,_,rfl,_,rfl,_,rfl,?_⟩
     show vN (.int ((p:Int)+(r:Int))) (bW u) H6 _
     refine⟨_,_,rfl,rfl,?_⟩
     rw[ev]
     have wl:ws2.length<=100:=by omega
     refine⟨w,_,_,rfl,rfl,w6,by rw[ai];exact cw wl (by decide),?_⟩
     have d5:=d4.add (e:=(p,r,wy)) hom cv he hjo
     have hvin:v∈ks (f'++[(v,ou+wy)]):=by rw[lA];simp
     refine⟨hi,f'++[(v,ou+wy)],ws2++[v],_,_,_,rfl,dQ hw0 s6,by rw[aL hdw];exact g6,by rw[aD,bu];rfl,d5.next he (λe=>?_) (λe=>?_),by rw[ao];omega,by rw[ao,ao];simp;omega⟩
     ·have e:p=u:=e
      rcases hv with⟨_,rfl⟩ | ⟨h1,_⟩
      ·exact hvin
      ·omega
     ·have e:r=u:=e
      rcases hv with⟨h1,_⟩ | ⟨_,rfl⟩
      ·omega
      ·exact hvin
   ·refine cB (decide_eq_false cu) ?_
    refine cB rfl ⟨hi,f',ws2,_,_,_,rfl,s5,g5,w5,d4.next he (λe=>absurd (.inl e.symm) cu) (λe=>absurd (.inr e.symm) cu),f1,f2⟩
  ·subst es
   rw[yl] at d4
   have dd:=d4.done
   have fl':=dd.len tre hs
   refine⟨2*((L.length+1) - f'.length)+ws2.length,?_,f',ws2,_,_,_,_,rfl,rfl,s4,g4,w4,dd,by omega⟩
   rw[ao]
   simp
   omega
inductive aFm (K : aa) (vs : List V) (H : Hp) (Q : VK) : Prop
 |mk (x : V) (qs : List Tq) (h0 : vs = [x]) (h1 : Sh K H (.tup (qs.map pA)) x) (h2 : Wq qs) (h3 : ∀p l ys H', Same H H' -> SqT K H' p [.int (sc qs), .ref l] -> H' l = some (.lst ys) -> Rows K H' ys (rwL (Ll qs)) -> Q (.ref p) H') : aFm K vs H Q
def aKD (K:aa):Sp:=λvs H Q _=>aFm K vs H Q
theorem aJF:∀vs H Q E,aKD K vs H Q E->gA K { nx:=λ_ H'=>Q .non H',rt:=Q } (start ["drawn","scale","one","other","far_off"] vs) H:=by
 intro vs H Q E h
 obtain⟨x,qs,rfl,hx,w,q⟩:=h
 obtain⟨a,xs,rfl,ha,hL⟩:=id hx
 have l13:=w.len
 have hl:(qs.map pA).length=xs.length:=hL.length
 rw[ai] at hl
 refine⟨_,rfl,a,rfl, .inr ⟨⟨xs,ha⟩,?_⟩⟩
 refine kA (K:=K) (a:=a) (xs:=xs) (λi σ' H'=>i<=xs.length/\H'=H/\∃x2 x3 x4,σ'=[some (.ref a),some (.int (sc (qs.take i))),x2,x3,x4]) ⟨bc _,rfl,_,_,_,rfl⟩ (λi σ' H' _ ⟨_,e,_⟩=>by rw[e];exact ha) (λi y σ1 H1 hy ⟨_,e1,x2,x3,x4,es⟩=>?_) λσ1 H1 ⟨_,e1,x2,x3,x4,es⟩=>?_
 ·subst es;subst e1
  have hi:i<xs.length:=(au.mp hy).1
  obtain⟨t,ht,st⟩:=aFM hL hy
  obtain⟨b,g,rfl,hb,hg⟩:=aBf st
  obtain⟨_,_,b1,b2⟩:=w.ok t (cb ht)
  obtain⟨c0,c1,_⟩:=zO (w.take i)
  refine⟨b,_,rfl,hb,rfl, .int (t.1:Int),[.int (t.2.1:Int), .ref g],rfl, .int (t.2.1:Int),[.ref g],rfl, .ref g,[],rfl,rfl,?_⟩
  refine⟨_,rfl,_,rfl,ixT (j:=1) hg rfl ⟨.inr ⟨nb (ue c0) c1,nb1 (c:=wb t) (by omega) b2⟩,hi,rfl,some (.int (t.1:Int)),some (.int (t.2.1:Int)),some (.ref g),?_⟩⟩
  rw[iz,ht]
  show _=[_,some (V.int (sc (qs.take i++[t]))),_,_,_]
  rw[aGW]
  rfl
 subst es;subst e1
 rw[jr (by omega)]
 obtain⟨c0,c1,_⟩:=zO w
 refine⟨_,rfl,_,rfl,a,rfl, .inr ⟨⟨xs,ha⟩,λA hA=>?_⟩⟩
 refine kA (K:=K) (a:=a) (xs:=xs) (λi σ' H'=>i<=xs.length/\(∃x0 x1 x2,σ'=[x0,x1,x2,some (.int (sc qs))])/\Same H1 H'/\∃ys,H' A=some (.lst ys)/\Rows K H' ys (rwL ((qs.take i).map λq=>(q.1,q.2.1,wt q*sc qs / wb q)))) ⟨bc _,⟨_,_,_,rfl⟩,aG hA _,[],aD,Rows.nil⟩ (λi σ' H' _ ⟨_,_,s,_⟩=>s.tup ha) (λi y σ2 H2 hy ⟨_,⟨x0,x1,x2,es⟩,s2,ys,hA2,hR⟩=>?_) λσ2 H2 ⟨_,⟨x0,x1,x2,es⟩,s2,ys,hA2,hR⟩=>?_
 ·subst es
  have hi:i<xs.length:=(au.mp hy).1
  obtain⟨t,ht,st⟩:=aFM hL hy
  obtain⟨b,g,rfl,hb,hg⟩:=aBf (st.same s2)
  obtain⟨t1,t2,b1,b2⟩:=w.ok t (cb ht)
  refine⟨b,_,rfl,hb,rfl, .int (t.1:Int),[.int (t.2.1:Int), .ref g],rfl, .int (t.2.1:Int),[.ref g],rfl, .ref g,[],rfl,rfl,?_⟩
  refine⟨_,rfl,_,rfl,_,rfl,ixT (j:=0) hg rfl ⟨_,rfl, .inr ⟨nb1 (c:=wt t) t1 t2,nb (ue c0) c1⟩,_,rfl,ixT (j:=1) hg rfl ⟨_,_,rfl,rfl,⟨b1,nb1 (c:=wb t) (by omega) b2⟩,show 3<=ba by decide,λz hz=>?_⟩⟩⟩
  have sz:=aG hz (.tup [V.int (t.1:Int), .int (t.2.1:Int), .int (wt t*sc qs / wb t)])
  have hAz:=sz _ _ hA2
  refine⟨ys,hAz,?_,hi,⟨_,_,_,rfl⟩,dQ hA (s2.trans sz),ys++[.ref z],aD,?_⟩
  ·rw[hR.1,aCX,ai,fg]
   exact cw (show _<=13 by omega) (by decide)
  ·rw[iz,ht,bu]
   unfold rwL
   rw[bu]
   exact Rows.snoc (Rows.put (hR.same sz) hAz) (dJ (.of aD) hAz)
 ·subst es
  rw[jr (by omega)] at hR
  refine⟨show 2<=ba by decide,λz hz=>?_⟩
  have sz:=aG hz (.tup [V.int (sc qs), .ref A])
  exact q z A ys _ (s2.trans sz) (.of aD) (sz _ _ hA2) (hR.same sz)
def tbL (qs:List Tq) (n:Nat):List (List Int):=(aw n).map λs=>aEI (Ll qs) s (sc qs) n
def aKm (qs:List Tq) (n:Nat):Prop:=∃s x,s<n/\x<n/\bdw (wy (Ll qs) s x) (sc qs)
inductive aEw (K : aa) (vs : List V) (H : Hp) (Q : VK) : Prop
 |mk (x : V) (qs : List Tq) (n : Nat) (h0 : vs = [x, .int (n : Int)]) (h1 : Sh K H (.tup (qs.map pA)) x) (h2 : Tr qs) (h3 : n <= qs.length + 1) (h4 : (aKm qs n -> ∀H', Same H H' -> Q .non H')) (h5 : (¬ aKm qs n -> ∀v H', Same H H' -> Sh K H' (gY (tbL qs n)) v -> Q v H')) : aEw K vs H Q
def aKL (K:aa):Sp:=λvs H Q _=>aEw K vs H Q
theorem aKa:∀vs H Q E,aKL K vs H Q E->eI K (aKD K) (aKw K) { nx:=λ_ H'=>Q .non H',rt:=Q } (start ["drawn","many","scale","ties","lines","place","found","other"] vs) H:=by
 intro vs H Q E h
 obtain⟨x,qs,n,rfl,hx,tr,hn,q1,q2⟩:=h
 have l13:=tr.len
 have w:=tr.toWq
 obtain⟨c0,c1,_⟩:=zO w
 have ll:(Ll qs).length=qs.length:=ai ..
 have tre:Tre (Ll qs):=oV tr _
 refine⟨_,rfl,x,qs,rfl,hx,w,λp l ys H1 s1 hp hl hR=>?_⟩
 refine⟨p,_,rfl,hp,rfl, .int (sc qs),[.ref l],rfl, .ref l,[],rfl,rfl,?_⟩
 refine⟨show 0<=ba by decide,λA hA=>?_⟩
 refine⟨_,rfl,(n:Int),rfl,by omega,by omega,?_⟩
 rw[cx]
 refine bP (lo:=0) (n:=n) (λi σ' H'=>i<=n/\(∃x5 x6 x7,σ'=[some x,some (.int (n:Int)),some (.int (sc qs)),some (.ref l),some (.ref A),x5,x6,x7])/\Same H1 H'/\∃zs,H' A=some (.lst zs)/\Rows K H' zs ((aw i).map λs=>aEI (Ll qs) s (sc qs) n)/\∀s x,s<i->x<n->¬ bdw (wy (Ll qs) s x) (sc qs)) ⟨bc _,⟨_,_,_,rfl⟩,aG hA _,[],aD,Rows.nil,λs x hs=>by omega⟩ (λi σ2 H2 hi ⟨_,⟨x5,x6,x7,es⟩,s2,zs,hA2,rz,nbd⟩=>?_) λσ2 H2 ⟨_,⟨x5,x6,x7,es⟩,s2,zs,hA2,rz,nbd⟩=>?_
 ·subst es
  rw[fw]
  refine⟨_,rfl,_,rfl,l,ys,Ll qs,i,rfl,s2 _ _ hl,hR.same s2,tre,by omega,by omega,λd f m H3 s3 g3 gr fl=>?_⟩
  refine⟨_,rfl,(n:Int),rfl,by omega,by omega,?_⟩
  rw[cx]
  refine bP (lo:=0) (n:=n) (λj σ' H'=>H'=H3/\(∃x7,σ'=[some x,some (.int (n:Int)),some (.int (sc qs)),some (.ref l),some (.ref A),some (.int (i:Int)),some (.ref d),x7])/\∀x,x<j->¬ bdw (wy (Ll qs) i x) (sc qs)) ⟨rfl,⟨_,rfl⟩,λx hx=>by omega⟩ (λj σ4 H4 hj ⟨e4,⟨y7,es⟩,nbi⟩=>?_) λσ4 H4 ⟨e4,⟨y7,es⟩,nbi⟩=>?_
  ·subst es;subst e4
   rw[fw]
   obtain⟨o,ho,hm⟩:=qL (show j∈ks f from gr.has tre (by omega) fl (by omega))
   obtain rfl:=aAp gr fl hm
   refine⟨_,rfl,_,rfl,d,_,rfl,aAG g3 ho,_,rfl,_,_,rfl,rfl,c0,_,_,rfl,rfl,_,rfl,?_⟩
   have mn:0<=wy (Ll qs) i j % sc qs:=zx _ (by omega)
   by_cases h1:wy (Ll qs) i j % sc qs > 0
   ·exact cD (decide_eq_true h1) (cD rfl (q1 ⟨i,j,hi,hj, .inl (by omega)⟩ _ ((s1.trans s2).trans s3)))
   ·refine cB (decide_eq_false h1) ⟨_,rfl,_,rfl,d,_,rfl,aAG g3 ho,_,rfl, .inl (.inl ⟨by decide,by decide⟩),_,_,rfl,rfl,_,rfl,?_⟩
    by_cases h2:wy (Ll qs) i j > 1000000*sc qs
    ·exact cD (decide_eq_true h2) (q1 ⟨i,j,hi,hj, .inr h2⟩ _ ((s1.trans s2).trans s3))
    ·refine cB (decide_eq_false h2) ⟨rfl,⟨_,rfl⟩,λx hx=>?_⟩
     by_cases hx':x<j
     ·exact nbi x hx'
     ·obtain rfl:x=j:=by omega
      rintro(h | h)
      ·omega
      ·exact h2 h
  ·subst es;subst e4
   have hA4:=s3 _ _ hA2
   refine⟨_,rfl, .inl ⟨rfl,_, .of hA4⟩,_,rfl,(n:Int),rfl,by omega,by omega,λB hB=>?_⟩
   rw[cx]
   refine nM (lo:=0) (n:=n) (vars:=[0]) (λk L' H'=>L'=(aEI (Ll qs) i (sc qs) k).map V.int) (by decide) (by show 0<3;decide) rfl hB (λk σ5 H5 L5 D hk l5 ag g0 sm hB5 e hD=>?_) λσ5 H5 L5 sm hB5 e=>?_
   ·have t1:σ5[1]?=some (some (.ref d)):=(ag 1 (by decide)).trans rfl
    have t2:σ5[2]?=some (some (.int (sc qs))):=(ag 2 (by decide)).trans rfl
    rw[fw] at g0
    obtain⟨o,ho,hm⟩:=qL (show k∈ks f from gr.has tre (by omega) fl (by omega))
    obtain rfl:=aAp gr fl hm
    refine⟨_,t1,_,g0,d,_,rfl,aAG (sm _ _ g3) ho,_,t2,_,_,rfl,rfl,⟨c0,nb (ue c0) c1⟩,?_⟩
    refine⟨L5,hB5,?_,hD σ5 _ _ l5 ag (dQ hB sm) aD ?_⟩
    ·rw[e,ai]
     unfold aEI
     rw[ai,cz]
     exact cw (show k<=14 by omega) (by decide)
    ·rw[e]
     unfold aEI
     rw[ot,bu,bu]
     rfl
   ·subst e
    refine⟨B,_,rfl, .inl ⟨.of hB5,λtp htp=>?_⟩⟩
    have st:=aG htp (.tup ((aEI (Ll qs) i (sc qs) n).map V.int))
    have hAt:=st _ _ (sm _ _ hA4)
    refine⟨A,zs,_,rfl,rfl,hAt,?_,hi,⟨_,_,_,rfl⟩,dQ hA (((s2.trans s3).trans sm).trans st),zs++[.ref tp],aD,?_,λs x hs hx=>?_⟩
    ·rw[rz.1,ai,cz]
     exact cw (show i<=14 by omega) (by decide)
    ·rw[ot,bu]
     exact Rows.snoc (Rows.put (((rz.same s3).same sm).same st) hAt) (dJ (.of aD) hAt)
    ·by_cases hs':s<i
     ·exact nbd s x hs' hx
     ·obtain rfl:s=i:=by omega
      exact nbi x hx
 ·subst es
  refine⟨_,rfl,A,zs,rfl, .inl ⟨.of hA2,λtp htp=>?_⟩⟩
  have st:=aG htp (.tup zs)
  exact q2 (λ⟨s,x,h1,h2,b⟩=>nbd s x h1 h2 b) _ _ ((s1.trans s2).trans st) (aFj (.of aD) (rz.same st))
end
theorem qN {a m j:Int}(h0:0<m)(h1:m<=4611686018427387904):CMul (a % m) j := .inl ⟨by have:=zx a (show m≠0 by omega);omega,by have:=Int.emod_lt_of_pos a h0;omega⟩
def aJl (l:Addr) (k:Nat) (z:Int):HO := .lst [.ref l, .int (k:Int), .int z]
def PenAt (H:Hp) (p l:Addr) (ns:List Int) (k:Nat) (z:Int):Prop:=H p=some (aJl l k z)/\H l=some (.lst (ns.map V.int))/\l≠p
def aIv (K:aa):TS:=(aT (gP (cF (tOp yGe (aF 2) (tOp aKy (tC (.int 10)) (tC (.int 18))))) (aT (dG (aF 2)) aQ) aQ) (aT (bU (tOp sI (tOp (bK K) (tOp (bK K) (tOp eG (tOp sI (aF 2) (tC (.int 2147483423))) (tC (.int 60013))) (tOp eG (aF 1) (tC (.int 40692)))) (tC (.int 17))) (tC (.int 2147483399))) (aI 3)) (aT (bU (tOp sI (tOp (bK K) (tOp (bK K) (tOp eG (aF 3) (aF 3)) (tOp eG (aF 1) (tC (.int 811)))) (tC (.int 3))) (tC (.int 2147483353))) (aI 4)) (aT (dG (tOp (bK K) (tOp eG (tOp (bK K) (aF 4) (tC (.int 2147483353))) (tC (.int 2147483353))) (tOp sI (tOp (bK K) (tOp eG (aF 4) (aF 4)) (aF 3)) (tC (.int 2147483353))))) aQ))))
section
variable {K:aa}
inductive tZ (vs : List V) (H : Hp) (Q : VK) : Prop
 |mk (p l : Addr) (ns : List Int) (k : Nat) (z : Int) (h0 : vs = [.ref p]) (h1 : PenAt H p l ns k z) (h2 : k <= 100000) (h3 : ∀v : Int, Q (.int v) (upd H p (aJl l (k + 1) z))) : tZ vs H Q
def aBD:Sp:=λvs H Q _=>tZ vs H Q
theorem nR {G:Hp}{p:Addr}{k:Nat}{c:Int}{Q:VK}(hk:k<=100000)(q:∀v:Int,Q (.int v) G):aIv K { nx:=λ_ H'=>Q .non H',rt:=Q } [some (.ref p),some (.int (k:Int)),some (.int c),none,none] G:=by
 refine⟨_,rfl,10,18,rfl,rfl,⟨by decide,by decide,by decide⟩,_,_,rfl,rfl,_,rfl,aKR (λc1=>⟨_,rfl,q c⟩) λc1=>?_⟩
 refine⟨_,rfl,_,_,rfl,rfl,by show(0:Int)<2147483423;decide, .inr ⟨by decide,by decide⟩,_,rfl, .inr ⟨by decide,by decide⟩,_,_,rfl,rfl,by show(0:Int)<2147483399;decide,?_⟩
 refine⟨_,rfl,_,rfl,qN (by decide) (by decide),_,rfl, .inr ⟨by decide,by decide⟩,_,_,rfl,rfl,by show(0:Int)<2147483353;decide,?_⟩
 exact⟨_,rfl, .inr ⟨by decide,by decide⟩,_,rfl,_,rfl,qN (by decide) (by decide),_,rfl,_,_,rfl,rfl,by show(0:Int)<2147483353;decide,q _⟩
theorem aDK:∀vs H Q E,aBD vs H Q E->hZ K { nx:=λ_ H'=>Q .non H',rt:=Q } (start ["pen","at","cell","one","two"] vs) H:=by
 intro vs H Q E h
 obtain⟨p,l,ns,k,z,rfl,⟨hp,hl,hlp⟩,hk,q⟩:=h
 refine⟨_,rfl,ixL (j:=1) (.of hp) rfl ?_⟩
 refine⟨_,rfl,_,rfl,p,_,1,1,rfl,rfl,hp,rfl,?_⟩
 have hG:(upd H p (.lst ([.ref l, .int (k:Int), .int z].set 1 (.int ((k:Int)+1))))) p=some (aJl l (k+1) z):=by rw[aD];rfl
 have hlG:(upd H p (.lst ([.ref l, .int (k:Int), .int z].set 1 (.int ((k:Int)+1))))) l=some (.lst (ns.map V.int)):=by rw[aL hlp];exact hl
 have q':∀v:Int,Q (.int v) (upd H p (.lst ([.ref l, .int (k:Int), .int z].set 1 (.int ((k:Int)+1))))):=q
 generalize upd H p (.lst ([.ref l, .int (k:Int), .int z].set 1 (.int ((k:Int)+1))))=G at *
 refine⟨_,rfl,_,rfl, .inl ⟨by omega,by omega⟩,?_⟩
 refine⟨_,rfl,_,rfl,ixL (j:=0) (.of hG) rfl ⟨l,_,rfl, .inl (.of hlG),_,_,rfl,rfl,_,rfl,?_⟩⟩
 rw[ai]
 by_cases c1:k<ns.length
 ·refine cD (decide_eq_true (by omega)) ?_
  refine⟨_,rfl,ixL (j:=0) (.of hG) rfl ⟨_,rfl,ixL (j:=k) (v := .int (ns.getD k 0)) (.of hlG) (by rw[az,L2.fQ c1];rfl) ?_⟩⟩
  exact nR hk q'
 ·refine cB (decide_eq_false (by omega)) ?_
  refine⟨_,rfl,ixL (j:=0) (.of hG) rfl ⟨l,_,rfl, .inl (.of hlG),_,_,rfl,rfl,_,rfl,?_⟩⟩
  rw[ai]
  by_cases c2:0<ns.length
  ·refine cD (decide_eq_true (by omega)) ?_
   obtain⟨j,ej,hj⟩:=aBb (c:=(k:Int)*3) (n:=ns.length) c2
   refine⟨_,rfl,_,rfl,ixL (j:=0) (.of hG) rfl ⟨_,rfl, .inr ⟨by decide,by decide⟩,_,rfl,ixL (j:=0) (.of hG) rfl ⟨l,_,rfl, .inl (.of hlG),?_⟩⟩⟩
   rw[ai]
   refine xB c2 ej ?_
   refine ixL (j:=j) (v := .int (ns.getD j 0)) (.of hlG) (by rw[az,L2.fQ hj];rfl) ⟨_,_,rfl,rfl,by show(0:Int)<1000003;decide,_,rfl,qN (by decide) (by decide),?_⟩
   exact nR hk q'
  ·refine cB (decide_eq_false (by omega)) ?_
   exact nR hk q'
inductive xC (vs : List V) (H : Hp) (Q : VK) : Prop
 |mk (p l : Addr) (ns : List Int) (k : Nat) (z : Int) (m : Nat) (h0 : vs = [.ref p, .int (m : Int)]) (h1 : PenAt H p l ns k z) (h2 : k <= 100000) (h3 : 1 <= m) (h4 : m <= 1000001) (h5 : ∀(r k' : Nat) (z' : Int) H', r < m -> k' <= k + 1 -> PenAt H' p l ns k' z' -> SameX p H H' -> Q (.int (r : Int)) H') : xC vs H Q
def jS:Sp:=λvs H Q _=>xC vs H Q
theorem PenAt.put {H:Hp}{p l:Addr}{ns:List Int}{k k':Nat}{z z':Int}(h:PenAt H p l ns k z):PenAt (upd H p (aJl l k' z')) p l ns k' z':=⟨aD,by rw[aL h.2.2];exact h.2.1,h.2.2⟩
theorem PenAt.x {H H':Hp}{p l:Addr}{ns:List Int}{k:Nat}{z:Int}(h:PenAt H p l ns k z)(s:Same H H'):PenAt H' p l ns k z:=⟨s _ _ h.1,s _ _ h.2.1,h.2.2⟩
theorem aGm:∀vs H Q E,jS vs H Q E->iU K aBD { nx:=λ_ H'=>Q .non H',rt:=Q } (start ["pen","many","found"] vs) H:=by
 intro vs H Q E h
 obtain⟨p,l,ns,k,z,m,rfl,hP,hk,h1,hm,q⟩:=h
 have rest:∀(G:Hp) (k':Nat) (z':Int),PenAt G p l ns k' z'->k'<=k+1->SameX p H G->aT (bU (tOp sI (tOp (bO K) (aF 0) (tC (.int 2))) (aF 1)) (aI 2)) (aT (bU (tOp aJZ (tOp (bO K) (aF 0) (tC (.int 2))) (aF 1)) (sF (aF 0) (tC (.int 2)) fY)) (aT (dG (aF 2)) aQ)) { nx:=λ_ H'=>Q .non H',rt:=Q } [some (.ref p),some (.int (m:Int)),none] G:=λG k' z' hG hk' sx=>by
  obtain⟨r,er,hr⟩:=aBb (c:=z') (n:=m) h1
  refine⟨_,rfl,ixL (j:=2) (.of hG.1) rfl ⟨_,rfl,xB h1 er ?_⟩⟩
  refine⟨_,rfl,ixL (j:=2) (.of hG.1) rfl ⟨_,rfl,_,_,rfl,rfl,⟨by omega,by omega⟩,_,rfl,p,_,2,2,rfl,rfl,hG.1,rfl,?_⟩⟩
  exact⟨_,rfl,q r k' (z' / (m:Int)) _ hr hk' hG.put (sx.trans (SameX.put _))⟩
 refine⟨_,rfl,ixL (j:=2) (.of hP.1) rfl ⟨_,rfl,_,_,rfl,rfl,_,rfl,aKR (λc1=>?_) λc1=>?_⟩⟩
 ·refine⟨_,rfl,p,l,ns,k,z,rfl,hP,hk,λv=>⟨_,rfl,p,_,2,2,rfl,rfl,aD,rfl,?_⟩⟩
  exact rest _ (k+1) v hP.put.put (by omega) ((SameX.put _).trans (SameX.put _))
 ·exact rest H k z hP (by omega) (SameX.refl _ _)
end
def PenN (H:Hp) (p l:Addr) (ns:List Int) (b:Nat):Prop:=∃k z,PenAt H p l ns k z/\k<=b
theorem PenN.x {H H':Hp}{p l:Addr}{ns:List Int}{b:Nat}(h:PenN H p l ns b)(s:Same H H'):PenN H' p l ns b:=let⟨k,z,a,c⟩:=h;⟨k,z,a.x s,c⟩
theorem PenN.le {H:Hp}{p l:Addr}{ns:List Int}{b c:Nat}(h:PenN H p l ns b)(e:b<=c):PenN H p l ns c:=let⟨k,z,a,d⟩:=h;⟨k,z,a,cg d e⟩
theorem PenN.lst {H:Hp}{p l:Addr}{ns:List Int}{b:Nat}(h:PenN H p l ns b):∃L,H p=some (.lst L):=let⟨_,_,a,_⟩:=h;⟨_,a.1⟩
theorem PenN.ne {H:Hp}{p l:Addr}{ns:List Int}{b:Nat}(h:PenN H p l ns b){a:Addr}(e:H a=none):a≠p/\a≠l:=by
 obtain⟨k,z,⟨h1,h2,_⟩,_⟩:=h
 exact⟨(λc=>by rw[c,h1] at e;cases e),(λc=>by rw[c,h2] at e;cases e)⟩
theorem PenN.upd {H:Hp}{p l:Addr}{ns:List Int}{b:Nat}(h:PenN H p l ns b){a:Addr}{o:HO}(e1:a≠p)(e2:a≠l):PenN (upd H a o) p l ns b:=by
 obtain⟨k,z,⟨h1,h2,h3⟩,h4⟩:=h
 exact⟨k,z,⟨by rw[aL (jh e1)];exact h1,by rw[aL (jh e2)];exact h2,h3⟩,h4⟩
theorem tkN {H:Hp}{p l:Addr}{ns:List Int}{b m:Nat}{Q:VK}{E:XK}(h:PenN H p l ns b)(hb:b<=90000)(m1:1<=m)(mm:m<=1000001)(q:∀(r:Nat) H',r<m->PenN H' p l ns (b+1)->SameX p H H'->Q (.int (r:Int)) H'):jS [.ref p, .int (m:Int)] H Q E:=by
 obtain⟨k,z,hP,hk⟩:=h
 exact⟨p,l,ns,k,z,m,rfl,hP,by omega,m1,mm,λr k' z' H' hr hk' hP' sx=>q r H' hr ⟨k',z',hP',by omega⟩ sx⟩
theorem okD:∀ns:List Int,oI (ns.map Dt.int)=0
 |[]=>rfl
 |n :: ns=>by rw[b8,oI,okD ns];rfl
theorem yF {α β:Type}{f:α->β}{R' R:List β}(h:R'.Perm R):∀qs:List α,R=qs.map f->∃qs':List α,qs'.Perm qs/\R'=qs'.map f:=by
 induction h with
 |nil=>exact λqs e=>⟨[],by cases qs with | nil=>exact .nil | cons _ _=>simp at e,rfl⟩
 |cons x _ ih=>
  intro qs e
  cases qs with
  |nil=>simp at e
  |cons q qs=>
   rw[b8,vx] at e
   obtain⟨qs',p,e'⟩:=ih qs e.2
   exact⟨q :: qs',p.cons q,by rw[b8,e.1,e']⟩
 |swap x y _=>
  intro qs e
  cases qs with
  |nil=>simp at e
  |cons q qs=>
   cases qs with
   |nil=>simp at e
   |cons r qs=>
    simp only[b8,vx] at e
    exact⟨r :: q :: qs, .swap q r qs,by simp only[b8];rw[e.1,e.2.1,e.2.2]⟩
 |trans _ _ ih1 ih2=>
  intro qs e
  obtain⟨q2,p2,e2⟩:=ih2 qs e
  obtain⟨q1,p1,e1⟩:=ih1 q2 e2
  exact⟨q1,p1.trans p2,e1⟩
section
variable {K:aa}
theorem aGY {x y:Nat}{H:Hp}{Q:VK}(q:Q (.int ((x+y:Nat):Int)) H):bK K (.int (x:Int)) (.int (y:Int)) H Q:=by
 show Q (.int ((x:Int)+(y:Int))) H
 rw[<- Ad]
 exact q
theorem qQ {P:Nat->Int->Prop}{r2:List Int}{i:Nat}{y:Int}(f2:r2.length=i)(f4:∀x,x<i->P x (r2.getD x 0))(hy:P i y){x:Nat}(hx:x<i+1):P x ((r2++[y]).getD x 0):=by
 by_cases c:x<i
 ·rw[aj,cm (by omega),<- aj]
  exact f4 x c
 ·obtain rfl:x=i:=by omega
  rw[aj,dh (by omega),f2,qm]
  exact hy
theorem aIl {hs:List Int}{u w:Nat}:(if(!decide (hs.getD u 0=hs.getD w 0))=true then 1 else 0)=if hs.getD (min u w) 0=hs.getD (max u w) 0 then 0 else 1:=by
 have key:∀x y:Int,(if(!decide (x=y))=true then 1 else 0)=if x=y then 0 else 1:=λx y=>by by_cases e:x=y <;> simp[e]
 by_cases c:u<=w
 ·rw[zp c,Nat.max_eq_right c]
  exact key _ _
 ·rw[Nat.min_eq_right (by omega),Nat.max_eq_left (by omega),key]
  by_cases e:hs.getD u 0=hs.getD w 0
  ·rw[if_pos e,if_pos e.symm]
  ·rw[if_neg e,if_neg (λz=>e z.symm)]
theorem aFF {r:Nat}{c:Bool}{H:Hp}{Q:VK}(q:∀tw:Nat,tw<=2*r+1->tw % 2=(if c=true then 1 else 0)->Q (.int (tw:Int)) H):bK K (.int (2*(r:Int))) (.int (if c then 1 else 0)) H Q:=by
 cases c with
 |true=>
  show Q (.int (2*(r:Int)+1)) H
  rw[show 2*(r:Int)+1=((2*r+1:Nat):Int) by omega]
  exact q _ (ay _) (by show(2*r+1) % 2=1;omega)
 |false=>
  show Q (.int (2*(r:Int)+0)) H
  rw[show 2*(r:Int)+0=((2*r:Nat):Int) by omega]
  exact q _ (by omega) (by show(2*r) % 2=0;omega)
theorem aHS {x y:Nat}{H:Hp}{Q:VK}(q:Q (.int ((min x y:Nat):Int)) H):tX [.int (x:Int), .int (y:Int)] H Q:=⟨_,_,rfl,by
 rw[show(if(y:Int)<(x:Int) then(y:Int) else(x:Int))=((min x y:Nat):Int) by split <;> omega]
 exact q⟩
theorem aIk {x y:Nat}{H:Hp}{Q:VK}(q:Q (.int ((max x y:Nat):Int)) H):vP [.int (x:Int), .int (y:Int)] H Q:=⟨_,_,rfl,by
 rw[show(if(y:Int) > (x:Int) then(y:Int) else(x:Int))=((max x y:Nat):Int) by split <;> omega]
 exact q⟩
theorem vY {H H':Hp}{p b:Addr}{L xs:List V}(h:SqT K H b xs)(hp:H p=some (.lst L))(s:SameX p H H'):SqT K H' b xs:=by
 rcases h with(h | ⟨o,h⟩) | h
 ·exact .inl (.inl (s _ _ (ne_of h hp λe=>by cases e) h))
 ·exact .inl (.inr ⟨o,s _ _ (ne_of h hp λe=>by cases e) h⟩)
 ·exact .inr h
theorem wW {H H':Hp}{xs:List V}{R:List (List Int)}(h:iI K H xs R)(f:∀b ys,SqT K H b ys->SqT K H' b ys):iI K H' xs R:=⟨h.1,λi row hr=>let⟨b,e,g,a,c,t,z,er,hb,hg⟩:=h.2 i row hr;⟨b,e,g,a,c,t,z,er,f _ _ hb,f _ _ hg⟩⟩
theorem aCg {H:Hp}{xs:List V}{R:List (List Int)}{b:Addr}{r:List Int}(h:iI K H xs R)(hb:Tri K H b r):iI K H (xs++[.ref b]) (R++[r]):=by
 refine⟨by rw[ao,ao,h.1];rfl,λi row e=>?_⟩
 by_cases hi:i<R.length
 ·rw[cm hi] at e
  rw[cm (by rw[h.1];exact hi)]
  exact h.2 i row e
 ·have hj:i<(R++[r]).length:=(au.mp e).1
  obtain rfl:i=R.length:=by rw[ao] at hj;simp at hj;omega
  rw[dh (ay _),qm] at e
  cases e
  exact⟨b,by rw[dh (by rw[h.1];exact ay _),h.1,qm];rfl,hb⟩
def Dz (n:Nat) (q:Tq):Prop:=aBy n q/\q.2.2.1<=200000/\q.2.2.2<=2
def Hv (hs:List Int) (q:Tq):Prop:=∃tw:Nat,tw<=140001/\wt q*2=(tw:Int)*wb q/\(tw % 2=if hs.getD q.1 0=hs.getD q.2.1 0 then 0 else 1)
def drE (K:aa):TS:=aT (oG (tBM K "list" kG (aF 7) (aC (gX (aC (tCB tX (aC (aF 9) (aC (aF 10) aR))) (aC (tCB vP (aC (aF 9) (aC (aF 10) aR))) (aC (aF 12) aR)))) aR))) aQ
inductive tR (K : aa) (vs : List V) (H : Hp) (Q : VK) : Prop
 |mk (p l : Addr) (ns : List Int) (b n : Nat) (h0 : vs = [.ref p, .int (n : Int)]) (h1 : PenN H p l ns b) (h2 : b <= 80000) (h3 : 1 <= n) (h4 : n <= 8) (h5 : ∀(a : Addr) (xs : List V) (qs : List Tq) H', PenN H' p l ns (b + 100) -> SameX p H H' -> SqT K H' a xs -> iI K H' xs (qs.map zU) -> Dn n (.tup (qs.map pA)) -> (∀q ∈ qs, Dz (qs.length + 1) q) -> (∃hs : List Int, (∀x, x < n -> hs.getD x 0 = 0) /\ (∀x, hs.getD x 0 = 0 \/ hs.getD x 0 = 1) /\ ∀q ∈ qs, Hv hs q) -> Q (.ref a) H') : tR K vs H Q
def aAT (K:aa):Sp:=λvs H Q _=>tR K vs H Q
theorem aDB:∀vs H Q E,aAT K vs H Q E->gZ K jS { nx:=λ_ H'=>Q .non H',rt:=Q } (start ["pen","many","size","names","mixed","odd","top","ties","k","one","other","halves","far_off"] vs) H:=by
 intro vs H Q E h
 obtain⟨p,lp,ns,b,m,rfl,hP,hb,m1,m8,q⟩:=h
 refine⟨_,rfl,_,rfl,_,rfl,_,_,rfl,rfl,?_⟩
 dsimp only[aR,tC,fh,gm]
 rw[show((15:Int) - (m:Int))=((15 - m:Nat):Int) by omega]
 refine tkN hP (by omega) (by omega) (by omega) λr H1 hr hP1 sx1=>?_
 refine aGY ?_
 obtain⟨n,hn⟩:∃n,n=m+r:=⟨_,rfl⟩
 rw[<- hn]
 have n1:m<=n:=by omega
 have n14:n<=14:=by omega
 refine⟨_,rfl, .inl ⟨_,rfl,λrg hrg => .inr ⟨rg,0,(n:Int),rfl,aD,⟨by decide,by decide,by omega,by omega,by omega⟩,λl hl=>?_⟩⟩⟩
 rw[aLk]
 refine⟨show 0<=ba by decide,λF hF=>?_⟩
 have s1:=aG hrg (.rng 0 (n:Int))
 have s2:=aG hl (.lst ((aw n).map bW))
 have s3:=aG hF (.lst [])
 have nl:=(hP1.x s1).ne hl
 have nF:=((hP1.x s1).x s2).ne hF
 have hl1:=s1.free hl
 have hF1:=s1.free (s2.free hF)
 have lF:l≠F:=aK (show upd (upd H1 rg (.rng 0 (n:Int))) l (.lst ((aw n).map bW)) l=some (.lst ((aw n).map bW)) from aD) hF
 refine⟨λm' σ' H'=>∃(ls fs:List Nat),σ'=[some (.ref p),some (.int (m:Int)),some (.int (n:Int)),some (.ref l),some (.ref F),none,none,none,none,none,none,none,none]/\PenN H' p lp ns (b+1+fs.length)/\H' l=some (.lst (ls.map bW))/\H' F=some (.lst (fs.map bW))/\SameX p H1 H'/\ls.length=m'/\(fs++ls).Perm (aw n),
  ⟨n,aw n,[],rfl,((hP1.x s1).x s2).x s3,s3 _ _ aD,aD,((s1.trans s2).trans s3).x,cz, .refl _⟩,?_⟩
 rintro m' σ' H' ⟨ls,fs,rfl,hP',el,eF,sx,rfl,pm⟩
 have le:fs.length+ls.length=n:=by rw[<- ao,pm.length_eq,cz]
 refine⟨_,rfl,show 0<=ba by decide,λpe hpe=>?_⟩
 have se:=aG hpe (.lst [])
 refine⟨.lst ((ls.map λx:Nat=>(x:Int)).map Dt.int), .lst [],by rw[dep];have:oI ((ls.map λx:Nat=>(x:Int)).map Dt.int)=0:=okD _;omega,⟨l,_,rfl, .of (se _ _ el),by rw[lY];exact ShL.ints _⟩,⟨pe,[],rfl, .of aD,rfl⟩,_,rfl,?_⟩
 cases ls with
 |cons a ls=>
  refine cD (by simp[eqD,eqL]) ?_
  have hPe:=hP'.x se
  have ele:=se _ _ el
  have eFe:=se _ _ eF
  have sxe:=sx.trans se.x
  generalize upd H' pe (.lst [])=G1 at *
  rw[bq] at le
  refine⟨λσ2 H2=>∃m',m'<(a :: ls).length/\∃(ls fs:List Nat),σ2=[some (.ref p),some (.int (m:Int)),some (.int (n:Int)),some (.ref l),some (.ref F),none,none,none,none,none,none,none,none]/\PenN H2 p lp ns (b+1+fs.length)/\H2 l=some (.lst (ls.map bW))/\H2 F=some (.lst (fs.map bW))/\SameX p H1 H2/\ls.length=m'/\(fs++ls).Perm (aw n),λ_ _ h=>h,?_⟩
  refine⟨_,rfl, .inl ⟨rfl,_, .of eFe⟩,_,rfl, .inl ⟨rfl,_, .of ele⟩,_,rfl,_,rfl,l,_,rfl, .inl (.of ele),?_⟩
  rw[ai]
  dsimp only[aR,tC,fh,gm]
  refine tkN hPe (by omega) (by simp) (by rw[bq];omega) λr H2 hr hP2 sx2=>?_
  have el2:H2 l=some (.lst ((a :: ls).map bW)):=sx2 _ _ nl.1 ele
  have eF2:H2 F=some (.lst (fs.map bW)):=sx2 _ _ nF.1 eFe
  have rl:(r:Int)<2 ^ 63:=by rw[bq] at hr;omega
  refine⟨l,_,_,r,bW (a :: ls)[r],rfl,rfl,el2,by omega,rl,by rw[ai];exact aJD hr,by rw[az,ah hr];rfl,?_⟩
  rw[uV]
  refine⟨F,fs.map bW,_,rfl,rfl,by rw[aL (jh lF)];exact eF2,cw (show(fs.map bW).length<=14 by rw[ai];omega) (by decide),?_⟩
  refine⟨ls.length,by rw[bq];omega,(a :: ls).eraseIdx r,fs++[(a :: ls)[r]],rfl,((hP2.upd nl.1 nl.2).upd nF.1 nF.2).le (by rw[ao];simp;omega),by rw[aL lF];exact aD,by rw[aD,bu];rfl,λc o hc e=>?_,by rw[List.length_eraseIdx_of_lt hr];rfl,(zR hr).trans pm⟩
  rw[aL (aK e hF1),aL (aK e hl1)]
  exact sx2 _ _ hc (sxe _ _ hc e)
 |nil=>
  refine cB (by simp[eqD,eqL]) ?_
  rw[ke] at pm
  have hPe:=hP'.x se
  have eFe:=se _ _ eF
  have sxe:=sx.trans se.x
  generalize upd H' pe (.lst [])=G1 at *
  have fl:fs.length=n:=by simpa using le
  rw[fl] at hPe
  have f14:∀x∈fs,x<n:=λx hx=>cf.mp (pm.mem_iff.mp hx)
  have fnd:fs.Nodup:=pm.nodup_iff.mpr iu
  refine⟨_,rfl,(n:Int),rfl,by omega,by omega,λA hA=>?_⟩
  rw[cx]
  have nA:=hPe.ne hA
  have AF:F≠A:=aK eFe hA
  refine aAj (lo:=0) (n:=n) (vars:=[0]) p (λi L H'=>∃r:List Int,L=r.map V.int/\r.length=i/\PenN H' p lp ns (b+1+n+i)/\∀x,x<i->(x<m->r.getD x 0=0)/\(r.getD x 0=0\/r.getD x 0=1)) (by decide) (by show 0<3;decide) ⟨[],rfl,rfl,hPe.x (aG hA _),λx hx=>by omega⟩ hA (λi σ2 H2 L2 D hi l2 ag2 g0 sx2 ha2 ⟨r2,f1,f2,hP2,f4⟩ hD=>?_) λσ2 H2 L2 sx2 ha2 ⟨hs,f1,f2,hP2,f4⟩=>?_
  ·have t1:σ2[1]?=some (some (.int (m:Int))):=(ag2 1 (by decide)).trans rfl
   have t2:σ2[2]?=some (some (.ref p)):=(ag2 2 (by decide)).trans rfl
   refine⟨_,g0,_,t1,_,_,rfl,rfl, .inr ⟨_,rfl,_,t2,?_⟩⟩
   dsimp only[aC,aR,tC,fh,gm]
   refine tkN (m:=2) hP2 (by omega) (by decide) (by decide) λr H3 hr hP3 sx3=>?_
   refine⟨.inr ⟨by omega,by omega⟩,?_⟩
   have ha3:=sx3 _ _ nA.1 ha2
   refine⟨L2,ha3,by rw[f1,ai];exact cw (show r2.length<=14 by omega) (by decide),?_⟩
   refine hD σ2 _ _ l2 ag2 (λc o hc e=>?_) aD ⟨r2++[(if decide ((0:Int)+(i:Int)≥(m:Int))=true then 1 else 0)*(r:Int)],by rw[f1,bu];rfl,by rw[ao,f2];rfl,(hP3.upd nA.1 nA.2).le (by omega),λx hx=>qQ (P:=λx v=>(x<m->v=0)/\(v=0\/v=1)) f2 f4 ⟨λe=>by rw[decide_eq_false (by omega)];simp,by split <;> omega⟩ hx⟩
   rw[aL (aK e hA)]
   exact sx3 _ _ hc (sx2 _ _ hc e)
  ·subst f1
   have eF2:=sx2 _ _ nF.1 eFe
   have sxb:=sxe.trans sx2
   refine⟨show 4<=ba by decide,λlq hlq=>⟨_,rfl,?_⟩⟩
   have sq:=aG hlq (.lst [V.int 1, .int 4, .int 30, .int 70000])
   have nq:=hP2.ne hlq
   dsimp only[aC,aR,tC,fh,gm]
   refine tkN (m:=4) (hP2.x sq) (by omega) (by decide) (by decide) λr3 H3 hr3 hP3 sx3=>?_
   obtain⟨mo,hmo,mo1⟩:∃mo:Nat,([V.int 1, .int 4, .int 30, .int 70000])[r3]?=some (.int (mo:Int))/\mo<=70000:=by
    match r3,hr3 with
    |0,_=>exact⟨1,rfl,by decide⟩
    |1,_=>exact⟨4,rfl,by decide⟩
    |2,_=>exact⟨30,rfl,by decide⟩
    |3,_=>exact⟨70000,rfl,by decide⟩
   refine ixL (j:=r3) (v := .int (mo:Int)) (.of (sx3 _ _ nq.1 aD)) hmo ?_
   have sxc:SameX p H1 H3:=(sxb.trans sq.x).trans sx3
   have eF3:=sx3 _ _ nF.1 (sq _ _ eF2)
   have eA3:=sx3 _ _ nA.1 (sq _ _ ha2)
   refine⟨show 0<=ba by decide,λT hT=>?_⟩
   have sT:=aG hT (.lst [])
   have nT:=hP3.ne hT
   have TF:F≠T:=aK eF3 hT
   have TA:A≠T:=aK eA3 hT
   refine⟨_,rfl,1,(n:Int),rfl,⟨by decide,by decide,by omega,by omega⟩,?_⟩
   refine bP (lo:=1) (n:=((n:Int) - 1).toNat) (λi σ' H'=>(∃x8 x9 x10 x11 x12,σ'=[some (.ref p),some (.int (m:Int)),some (.int (n:Int)),some (.ref l),some (.ref F),some (.ref A),some (.int (mo:Int)),some (.ref T),x8,x9,x10,x11,x12])/\PenN H' p lp ns (b+30+2*i)/\SameX p H3 H'/\∃(xs:List V) (qs:List Tq),H' T=some (.lst xs)/\iI K H' xs (qs.map zU)/\qs.length=i/\(∀t∈qs,Dz n t/\Hv hs t)/\∀j,j<=i->∀x y,fs[0]?=some x->fs[j]?=some y->K64.Q.Cn (qs.map pr) (aw n) x y) ⟨⟨_,_,_,_,_,rfl⟩,(hP3.x sT).le (by omega),sT.x,[],[],aD,⟨rfl,λi row h=>by cases h⟩,rfl,by simp,λj hj x y h0 hy=>?_⟩ (λi σ4 H4 hi ⟨⟨x8,x9,x10,x11,x12,es⟩,hP4,sx4,xs,qs,eT,rq,ql,hqs,hcn⟩=>?_) λσ4 H4 ⟨⟨x8,x9,x10,x11,x12,es⟩,hP4,sx4,xs,qs,eT,rq,ql,hqs,hcn⟩=>?_
   ·obtain rfl:j=0:=by omega
    rw[h0] at hy
    cases hy
    exact .refl _
   ·subst es
    rw[show((1:Int)+(i:Int))=((i+1:Nat):Int) by omega]
    have i1:i+1<fs.length:=by omega
    have eF4:=sx4 _ _ nF.1 eF3
    have eA4:=sx4 _ _ nA.1 eA3
    refine⟨_,rfl,_,rfl,ixL (j:=i+1) (v:=bW fs[i+1]) (.of eF4) (by rw[az,ah i1];rfl) ⟨_,rfl,_,rfl,_,rfl,?_⟩⟩
    dsimp only[aR,tC,fh,gm]
    refine tkN hP4 (by omega) (by omega) (by omega) λr H5 hr hP5 sx5=>?_
    have hr':r<fs.length:=by omega
    have eF5:=sx5 _ _ nF.1 eF4
    have eA5:=sx5 _ _ nA.1 eA4
    refine ixL (j:=r) (v:=bW fs[r]) (.of eF5) (by rw[az,ah hr'];rfl) ⟨_,_,rfl,?_⟩
    have o1:=f14 _ (dz i1)
    have o2:=f14 _ (dz hr')
    have one:fs[i+1]≠fs[r]:=jh ((md.mp fnd) r (i+1) hr' i1 (by omega))
    have c1:K64.Q.Cn (qs.map pr) (aw n) fs[0] fs[r]:=hcn r (by omega) _ _ (ah (by omega)) (ah hr')
    obtain⟨u,hu⟩:∃u,u=fs[i+1]:=⟨_,rfl⟩
    obtain⟨w,hw⟩:∃w,w=fs[r]:=⟨_,rfl⟩
    rw[<- hu] at o1 one
    rw[<- hw] at o2 one c1
    rw[<- hu,<- hw]
    refine⟨_,rfl,_,rfl,?_⟩
    dsimp only[tC]
    refine aGY (x:=mo) (y:=1) ?_
    dsimp only[aR,tC,fh,gm]
    refine tkN hP5 (by omega) (by omega) (by omega) λr2 H6 hr2 hP6 sx6=>?_
    refine⟨.inr ⟨by omega,by omega⟩,?_⟩
    have eA6:=sx6 _ _ nA.1 eA5
    refine⟨_,rfl,_,rfl,ixL (j:=u) (v := .int (hs.getD u 0)) (.of eA6) (by rw[az,L2.fQ (by omega)];rfl) ⟨_,rfl,_,rfl,ixL (j:=w) (v := .int (hs.getD w 0)) (.of eA6) (by rw[az,L2.fQ (by omega)];rfl) ⟨.int _, .int _,bc _,rfl,rfl, .inr ⟨_,rfl,?_⟩⟩⟩⟩
    refine aFF λtw htw hpar=>?_
    have pL:=hP4.lst
    obtain⟨PL,pL⟩:=pL
    have sx46:=sx5.trans sx6
    have eT6:H6 T=some (.lst xs):=sx46 _ _ nT.1 eT
    have rq6:iI K H6 xs (qs.map zU):=wW rq λ_ _ hb=>vY hb pL sx46
    have fin:∀(t z:Nat) (g:Addr) (G:Hp),t<=200000->1<=z->z<=2->t.gcd z=1->t*2=tw*z->Same H6 G->SqT K G g ([(t:Int),(z:Int)].map V.int)->drE K { nx:=λσ' H'=>(∃x8 x9 x10 x11 x12,σ'=[some (.ref p),some (.int (m:Int)),some (.int (n:Int)),some (.ref l),some (.ref F),some (.ref A),some (.int (mo:Int)),some (.ref T),x8,x9,x10,x11,x12])/\PenN H' p lp ns (b+30+2*(i+1))/\SameX p H3 H'/\∃(xs:List V) (qs:List Tq),H' T=some (.lst xs)/\iI K H' xs (qs.map zU)/\qs.length=i+1/\(∀t∈qs,Dz n t/\Hv hs t)/\∀j,j<=i+1->∀x y,fs[0]?=some x->fs[j]?=some y->K64.Q.Cn (qs.map pr) (aw n) x y,rt:=Q } [some (.ref p),some (.int (m:Int)),some (.int (n:Int)),some (.ref l),some (.ref F),some (.ref A),some (.int (mo:Int)),some (.ref T),some (.int ((i+1:Nat):Int)),some (bW u),some (bW w),some (.int (tw:Int)),some (.ref g)] G:=λt z g G t2 z1 z2 tz h2 sG hg=>by
     refine⟨_,rfl, .inl ⟨rfl,_, .of (sG _ _ eT6)⟩,_,rfl,_,rfl,?_⟩
     dsimp only[aR]
     refine aHS (x:=u) (y:=w) ?_
     refine⟨_,rfl,_,rfl,?_⟩
     dsimp only[aR]
     refine aIk (x:=u) (y:=w) ?_
     refine⟨_,rfl,show 3<=ba by decide,λc hc=>?_⟩
     have sc:=aG hc (.tup [V.int ((min u w:Nat):Int), .int ((max u w:Nat):Int), .ref g])
     have eTc:=sc _ _ (sG _ _ eT6)
     refine⟨T,xs,_,rfl,rfl,eTc,?_,⟨_,_,_,_,_,rfl⟩,(((hP6.x sG).x sc).upd nT.1 nT.2).le (by omega),λd o hd e=>?_,xs++[.ref c],qs++[(min u w,max u w,(t:Int),(z:Int))],aD,?_,by rw[ao,ql];rfl,λt' ht=>?_,λj hj x y h0 hy=>?_⟩
     ·rw[rq.1,ai,ql]
      exact cw (show i<=14 by omega) (by decide)
     ·rw[aL (aK e hT)]
      exact sc _ _ (sG _ _ (sx46 _ _ hd (sx4 _ _ hd e)))
     ·rw[bu]
      refine aCg (wW rq6 λ_ _ hb=>dJ (sc.tup (sG.tup hb)) eTc) ⟨g,_,_,_,_,rfl,dJ (.of aD) eTc,dJ (sc.tup hg) eTc⟩
     ·rcases b9.mp ht with ht | ht
      ·exact hqs t' ht
      ·rw[bb.mp ht]
       refine⟨⟨⟨by show min u w<max u w;omega,by show max u w<n;omega,by show(0:Int)<=(t:Int);omega,by show(1:Int)<=(z:Int);omega,by show AN (t:Int) (z:Int)=1;exact tz⟩,by show(t:Int)<=200000;omega,by show(z:Int)<=2;omega⟩,tw,by omega,by show(t:Int)*2=(tw:Int)*(z:Int);exact_mod_cast h2,?_⟩
       show tw % 2=if hs.getD (min u w) 0=hs.getD (max u w) 0 then 0 else 1
       rw[hpar,dP]
       exact aIl
     ·have mono:∀{x y},K64.Q.Cn (qs.map pr) (aw n) x y->K64.Q.Cn ((qs++[(min u w,max u w,(t:Int),(z:Int))]).map pr) (aw n) x y:=λh=>h.mono (λe he=>by rw[bu];exact ck _ he) λ_ h=>h
      by_cases cj:j<=i
      ·exact mono (hcn j cj x y h0 hy)
      ·obtain rfl:j=i+1:=by omega
       rw[ah i1,<- hu] at hy
       cases hy
       rw[ah (by omega)] at h0
       cases h0
       refine .step (mono c1) (cf.mpr o2) (cf.mpr o1) ?_
       show(min w u,max w u)∈_
       rw[bu,Bo,Bp]
       exact dk _ (by simp[pr])
    refine⟨_,rfl,_,_,rfl,rfl,by show(0:Int)<2;decide, .int _, .int _,bc _,rfl,rfl,_,rfl,?_⟩
    by_cases ce:tw % 2=0
    ·refine cD (by rw[dP];exact decide_eq_true (by show(tw:Int) % 2=0;omega)) ⟨_,rfl,_,_,rfl,rfl,⟨by decide,by decide⟩,show 2<=ba by decide,λg hg=>?_⟩
     have sg:=aG hg (.tup [V.int ((tw:Int) / 2), .int 1])
     refine fin (tw / 2) 1 g _ (by omega) (by decide) (by decide) (Nat.gcd_one_right _) (by omega) sg (.of ?_)
     rw[aD]
     show some (HO.tup [V.int ((tw:Int) / 2), .int 1])=some (.tup [.int ((tw / 2:Nat):Int), .int 1])
     rw[show((tw:Int) / 2)=((tw / 2:Nat):Int) by omega]
    ·refine cB (by rw[dP];exact decide_eq_false (by show ¬ (tw:Int) % 2=0;omega)) ⟨_,rfl,show 2<=ba by decide,λg hg=>?_⟩
     have sg:=aG hg (.tup [V.int (tw:Int), .int 2])
     refine fin tw 2 g _ (by omega) (by decide) (by decide) ?_ rfl sg (.of aD)
     have hd:AL tw 2 ∣ 2:=Nat.gcd_dvd_right _ _
     have hd1:AL tw 2 ∣ tw:=Nat.gcd_dvd_left _ _
     have hle:AL tw 2<=2:=Nat.le_of_dvd (by decide) hd
     have hpos:0<AL tw 2:=Nat.gcd_pos_of_pos_right _ (by decide)
     rcases(show AL tw 2=1\/AL tw 2=2 by omega) with h | h
     ·exact h
     ·rw[h] at hd1
      omega
   ·subst es
    have qn:qs.length+1=n:=by omega
    refine⟨_,rfl,T,xs,qs.map zU,rfl, .inl (.of eT),rq,by rw[ai];omega,λys' R' pm' pw py rq' sl hsl=>?_⟩
    obtain⟨qs',pq,eR⟩:=yF pm' qs rfl
    subst eR
    have ss:=aG hsl (.lst ys')
    refine⟨sl,ys',rfl, .inl ⟨.of aD,λa ha=>?_⟩⟩
    have sa:=aG ha (.tup ys')
    have ql':qs'.length=qs.length:=pq.length_eq
    have hdz:∀t∈qs',Dz (qs'.length+1) t:=λt ht=>by rw[ql',qn];exact(hqs t (pq.mem_iff.mp ht)).1
    refine q a ys' qs' _ (((hP4.x ss).x sa).le (by omega)) (((sx1.trans sxc).trans sx4).trans (ss.trans sa).x) (.of aD) (iH (iH rq' ss) sa) (aFo.mpr ⟨by omega,by omega,λt ht=>(hdz t ht).1,pw,?_⟩) hdz ⟨hs,λx hx=>(f4 x (by omega)).1 hx,λx=>by by_cases hx:x<n;exact(f4 x hx).2;rw[aj,List.getElem?_eq_none (by omega)];exact .inl rfl,λt ht=>(hqs t (pq.mem_iff.mp ht)).2⟩
    have f0:0<fs.length:=by omega
    have cn0:∀x,x<n->K64.Q.Cn (qs.map pr) (aw n) fs[0] x:=λx hx=>by
     obtain⟨j,hj,e⟩:=iq (pm.mem_iff.mpr (cf.mpr hx))
     exact hcn j (by omega) _ _ (ah f0) (by rw[ah hj,e])
    rw[ql',qn]
    intro x hx
    exact((cn0 0 (by omega)).symm.trans (cn0 x hx)).mono (λe he=>(pq.map pr).mem_iff.mpr he) λ_ h=>h
end
structure Fp (D:Nat->Nat->Int)(n:Nat):Prop where
 pos:0<n
 z:∀i,i<n->D i i=0
 sy:∀i j,i<n->j<n->D i j=D j i
 fp:∀i j k l,i<n->j<n->k<n->l<n->D i j+D k l<=D i k+D j l\/D i j+D k l<=D i l+D j k
def gp (D:Nat->Nat->Int) (p q:Nat):Int:=D 0 p+D 0 q - D p q
def hp (D:Nat->Nat->Int) (p:Nat):Int:=2*D 0 p
section
variable {D:Nat->Nat->Int}{n:Nat}
theorem Fp.um (F:Fp D n){p q r:Nat}(h1:p<n)(h2:q<n)(h3:r<n):gp D p r<=gp D p q\/gp D q r<=gp D p q:=by
 have a:=F.fp p q r 0 h1 h2 h3 F.pos
 have b:=F.sy r 0 h3 F.pos
 have c:=F.sy q 0 h2 F.pos
 have d:=F.sy p 0 h1 F.pos
 unfold gp
 omega
theorem Fp.gs (F:Fp D n){p q:Nat}(h1:p<n)(h2:q<n):gp D p q=gp D q p:=by
 have:=F.sy p q h1 h2
 unfold gp
 omega
theorem Fp.gg (F:Fp D n){p:Nat}(h1:p<n):gp D p p=hp D p:=by
 have:=F.z p h1
 unfold gp hp
 omega
theorem Fp.gn (F:Fp D n){p q:Nat}(h1:p<n)(h2:q<n):0<=gp D p q:=by
 have a:=F.fp p q 0 0 h1 h2 F.pos F.pos
 have:=F.z 0 F.pos
 have b:=F.sy p 0 h1 F.pos
 have c:=F.sy q 0 h2 F.pos
 unfold gp
 omega
theorem Fp.gh (F:Fp D n){p q:Nat}(h1:p<n)(h2:q<n):gp D p q<=hp D p:=by
 have a:=F.fp 0 q p p F.pos h2 h1 h1
 have:=F.z p h1
 have b:=F.sy q p h2 h1
 unfold gp hp
 omega
theorem Fp.hn (F:Fp D n){p:Nat}(h1:p<n):0<=hp D p:=by
 have:=F.gn h1 h1
 rwa[F.gg h1] at this
theorem Fp.cut (F:Fp D n){p q r:Nat}{t:Int}(h1:p<n)(h2:q<n)(h3:r<n)(ht:t<=gp D p q):min t (gp D p r)=min t (gp D q r):=by
 have a:=F.um h1 h3 h2
 have b:=F.um h2 h3 h1
 have c:=F.gs h1 h2
 have d:=F.gs h2 h3
 have e:=F.gs h1 h3
 omega
end
def upF {α:Type} (f:Nat->α) (a:Nat) (b:α):Nat->α:=λx=>if x=a then b else f x
theorem aU {α:Type}{f:Nat->α}{a:Nat}{b:α}:upF f a b a=b:=by simp[upF]
theorem aV {α:Type}{f:Nat->α}{a x:Nat}{b:α}(h:x≠a):upF f a b x=f x:=by simp[upF,h]
def mt (D:Nat->Nat->Int) (r:Nat->Nat) (δ:Nat->Int) (s v:Nat):Int:=min (δ s) (min (δ v) (gp D (r s) (r v)))
structure Tv (D:Nat->Nat->Int)(n:Nat)(V:Nat->Prop)(r:Nat->Nat)(δ:Nat->Int)(par:Nat->Nat)(rk:Nat->Nat):Prop where
 root:V 0
 zero:δ 0=0
 rep:∀v,V v->r v<n/\0<=δ v/\δ v<=hp D (r v)
 pin:∀v,V v->v≠0->V (par v)
 A:∀v,V v->v≠0->δ (par v)<=δ v/\δ (par v)<=gp D (r (par v)) (r v)
 B:∀s v,V s->V v->v≠0->mt D r δ s v<=δ (par v)\/mt D r δ s v=δ v
 E:∀v v',V v->V v'->v≠v'->v≠0->v'≠0->δ v=δ v'->δ v<=gp D (r v) (r v')->δ (par v)=δ v\/δ (par v')=δ v'
 rkd:∀v,V v->v≠0->rk (par v)<rk v
section
variable {D:Nat->Nat->Int}{n:Nat}{V:Nat->Prop}{r:Nat->Nat}{δ:Nat->Int}{par rk:Nat->Nat}
theorem aIE (F:Fp D n):Tv D n (λv=>v=0) (λ_=>0) (λ_=>0) (λ_=>0) (λ_=>0) where
 root:=rfl
 zero:=rfl
 rep:=λv _=>⟨F.pos,nc _,F.hn F.pos⟩
 pin:=λv h1 h2=>absurd h1 h2
 A:=λv h1 h2=>absurd h1 h2
 B:=λs v _ h1 h2=>absurd h1 h2
 E:=λv v' h1 _ _ h2=>absurd h1 h2
 rkd:=λv h1 h2=>absurd h1 h2
theorem om1 {P v w C C' : Int} (a : C ≤ w) (h : w ≤ P) (b : min w C = min w C') : min P (min v C) = min w (min v C') := by
  rw [Int.min_eq_right a] at b
  rw [← Int.min_assoc w v C', Int.min_comm w v, Int.min_assoc, ← b]
  exact Int.min_eq_right (Int.le_trans (Int.min_le_right ..) (Int.le_trans a h))
theorem om2 {t v x A B : Int} (h : t ≤ v) (b : min t A = min t B) : min t (min x A) = min t (min v (min x B)) := by
  rw [← Int.min_assoc t v, Int.min_eq_left h, ← Int.min_assoc, ← Int.min_assoc, Int.min_comm t x, Int.min_assoc, Int.min_assoc, b]
theorem om3 {t v x A B : Int} (h : t ≤ v) (b : min t A = min t B) : min x (min t A) = min t (min x (min v B)) := by
  rw [b, ← Int.min_assoc t x, Int.min_comm t x, Int.min_assoc, ← Int.min_assoc t v, Int.min_eq_left h]
theorem Tv.leaf (T:Tv D n V r δ par rk)(F:Fp D n){w p:Nat}(hw:V w)(hpn:p<n)(hp0:¬ V p)(h1:δ w<=hp D p)(h2:δ w<=gp D (r w) p)(h3:∀s,V s->gp D p (r s)<=δ w) :
  Tv D n (λv=>V v\/v=p) (upF r p p) (upF δ p (hp D p)) (upF par p w) (upF rk p (rk w+1)):=by
 have ne:∀{v},V v->v≠p:=λh e=>hp0 (e ▸ h)
 have hz:(0:Nat)≠p:=ne T.root
 obtain⟨rw1,_,_⟩:=T.rep w hw
 have mp:∀v',V v'->mt D (upF r p p) (upF δ p (hp D p)) p v'=mt D r δ w v':=λv' hv'=>by
  obtain⟨r1,_,_⟩:=T.rep v' hv'
  unfold mt
  rw[aU,aU,aV (ne hv'),aV (ne hv')]
  have a:=h3 v' hv'
  have b:=F.cut (r:=r v') rw1 hpn r1 h2
  exact om1 a h1 b.symm
 have mo:∀s v,V s->V v->mt D (upF r p p) (upF δ p (hp D p)) s v=mt D r δ s v:=λs v hs hv=>by
  unfold mt
  rw[aV (ne hs),aV (ne hs),aV (ne hv),aV (ne hv)]
 refine⟨.inl T.root,by rw[aV hz];exact T.zero,λv hv=>?_,λv hv h0=>?_,λv hv h0=>?_,λs v hs hv h0=>?_,λv v' hv hv' hne h0 h0' e1 e2=>?_,λv hv h0=>?_⟩
 ·rcases hv with hv | rfl
  ·rw[aV (ne hv),aV (ne hv)];exact T.rep v hv
  ·rw[aU,aU];exact⟨hpn,F.hn hpn,nc _⟩
 ·rcases hv with hv | rfl
  ·rw[aV (ne hv)];exact .inl (T.pin v hv h0)
  ·rw[aU];exact .inl hw
 ·rcases hv with hv | rfl
  ·have hq:=T.pin v hv h0
   rw[aV (ne hv),aV (ne hv),aV (ne hv),aV (ne hq),aV (ne hq)]
   exact T.A v hv h0
  ·rw[aU,aU,aU,aV (ne hw),aV (ne hw)]
   exact⟨h1,h2⟩
 ·rcases hv with hv | rfl
  ·have hq:=T.pin v hv h0
   rw[aV (ne hv) (f:=par),aV (ne hq),aV (ne hv) (f:=δ)]
   rcases hs with hs | rfl
   ·rw[mo s v hs hv];exact T.B s v hs hv h0
   ·rw[mp v hv];exact T.B w v hw hv h0
  ·rw[aU (f:=par),aU (f:=δ),aV (ne hw)]
   rcases hs with hs | rfl
   ·left
    have a:=h3 s hs
    have b:=F.gs hpn (T.rep s hs).1
    unfold mt
    rw[aU,aU,aV (ne hs),aV (ne hs)]
    omega
   ·right
    unfold mt
    rw[aU,aU,F.gg hpn]
    omega
 ·rcases hv with hv | rfl
  ·have hq:=T.pin v hv h0
   rcases hv' with hv' | rfl
   ·have hq':=T.pin v' hv' h0'
    rw[aV (ne hv),aV (ne hv')] at e1
    rw[aV (ne hv),aV (ne hv),aV (ne hv')] at e2
    rw[aV (ne hv),aV (ne hv'),aV (ne hv),aV (ne hv'),aV (ne hq),aV (ne hq')]
    exact T.E v v' hv hv' hne h0 h0' e1 e2
   ·right
    rw[aV (ne hv),aU] at e1
    rw[aV (ne hv),aV (ne hv),aU] at e2
    rw[aU,aU,aV (ne hw)]
    have a:=h3 v hv
    have b:=F.gs hpn (T.rep v hv).1
    omega
  ·rcases hv' with hv' | rfl
   ·left
    rw[aV (ne hv'),aU] at e1
    rw[aU,aU,aV (ne hv')] at e2
    rw[aU,aU,aV (ne hw)]
    have a:=h3 v' hv'
    omega
   ·exact absurd rfl hne
 ·rcases hv with hv | rfl
  ·rw[aV (ne hv),aV (ne hv),aV (ne (T.pin v hv h0))];exact T.rkd v hv h0
  ·rw[aU,aU,aV (ne hw)];exact nr _
theorem Tv.ins (T:Tv D n V r δ par rk)(F:Fp D n){v j q:Nat}{t:Int}(hv:V v)(hv0:v≠0)(hj:¬ V j)(hq:q<n)(h1:δ (par v)<t)(h2:t<δ v)(h3:t<=hp D q)(h4:t<=gp D q (r v)) :
  Tv D n (λx=>V x\/x=j) (upF r j q) (upF δ j t) (upF (upF par j (par v)) v j) (λx=>if x=j then 2*rk v - 1 else 2*rk x):=by
 have ne:∀{x},V x->x≠j:=λh e=>hj (e ▸ h)
 have hz:(0:Nat)≠j:=ne T.root
 have hu:=T.pin v hv hv0
 have pv:upF (upF par j (par v)) v j v=j:=aU
 have pj:upF (upF par j (par v)) v j j=par v:=by rw[aV (ne hv).symm,aU]
 have po:∀x,V x->x≠v->upF (upF par j (par v)) v j x=par x:=λx hx e=>by rw[aV e,aV (ne hx)]
 have dj:upF δ j t j=t:=aU
 have dO:∀x,V x->upF δ j t x=δ x:=λx hx=>aV (ne hx)
 have rj:upF r j q j=q:=aU
 have rO:∀x,V x->upF r j q x=r x:=λx hx=>aV (ne hx)
 obtain⟨rv,_,_⟩:=T.rep v hv
 obtain⟨ru,u0,_⟩:=T.rep _ hu
 have mo:∀s x,V s->V x->mt D (upF r j q) (upF δ j t) s x=mt D r δ s x:=λs x hs hx=>by
  unfold mt;rw[dO s hs,dO x hx,rO s hs,rO x hx]
 have mj:∀x,V x->mt D (upF r j q) (upF δ j t) j x=min t (mt D r δ v x):=λx hx=>by
  unfold mt
  rw[dj,dO x hx,rj,rO x hx]
  have:=F.cut (r:=r x) hq rv (T.rep x hx).1 h4
  exact om2 (Int.le_of_lt h2) this
 have mj':∀x,V x->mt D (upF r j q) (upF δ j t) x j=min t (mt D r δ x v):=λx hx=>by
  unfold mt
  rw[dj,dO x hx,rj,rO x hx]
  have:=F.cut (r:=r x) hq rv (T.rep x hx).1 h4
  have e1:=F.gs hq (T.rep x hx).1
  have e2:=F.gs rv (T.rep x hx).1
  rw[← e1,← e2]
  exact om3 (Int.le_of_lt h2) this
 refine⟨.inl T.root,by rw[dO 0 T.root];exact T.zero,λx hx=>?_,λx hx h0=>?_,λx hx h0=>?_,λs x hs hx h0=>?_,λx y hx hy hne hx0 hy0 e1 e2=>?_,λx hx h0=>?_⟩
 ·rcases hx with hx | rfl
  ·rw[rO x hx,dO x hx];exact T.rep x hx
  ·rw[rj,dj];exact⟨hq,by omega,h3⟩
 ·rcases hx with hx | rfl
  ·by_cases e:x=v
   ·rw[e,pv];exact .inr rfl
   ·rw[po x hx e];exact .inl (T.pin x hx h0)
  ·rw[pj];exact .inl hu
 ·rcases hx with hx | rfl
  ·by_cases e:x=v
   ·rw[e,pv,dj,rj,dO v hv,rO v hv];exact⟨by omega,h4⟩
   ·have hp:=T.pin x hx h0
    rw[po x hx e,dO _ hp,dO x hx,rO _ hp,rO x hx]
    exact T.A x hx h0
  ·rw[pj,dO _ hu,dj,rO _ hu,rj]
   refine⟨by omega,?_⟩
   have a:=(T.A v hv hv0).2
   have b:=F.um ru hq rv
   omega
 ·rcases hx with hx | rfl
  ·by_cases e:x=v
   ·subst e
    rw[pv,dj,dO x hx]
    rcases hs with hs | rfl
    ·rw[mo s x hs hx]
     rcases T.B s x hs hx h0 with b | b
     ·left;omega
     ·exact .inr b
    ·left
     rw[mj x hx]
     omega
   ·have hp:=T.pin x hx h0
    rw[po x hx e,dO _ hp,dO x hx]
    rcases hs with hs | rfl
    ·rw[mo s x hs hx];exact T.B s x hs hx h0
    ·rw[mj x hx]
     rcases T.B v x hv hx h0 with b | b
     ·left;omega
     ·by_cases c:δ x<=t
      ·right;omega
      ·left
       have b2:=T.B x v hx hv hv0
       have eq:mt D r δ x v=mt D r δ v x:=by
        unfold mt
        have:=F.gs (T.rep x hx).1 rv
        omega
       have hvx:δ v=δ x:=by
        rcases b2 with b2 | b2
        ·omega
        ·omega
       have gx:δ v<=gp D (r v) (r x):=by unfold mt at b;omega
       rcases T.E v x hv hx (λz=>e z.symm) hv0 h0 hvx gx with z | z
       ·omega
       ·omega
  ·rw[pj,dj,dO _ hu]
   rcases hs with hs | rfl
   ·rw[mj' s hs]
    rcases T.B s v hs hv hv0 with b | b
    ·left;omega
    ·right;omega
   ·right
    unfold mt
    rw[dj,rj,F.gg hq]
    omega
 ·have key:∀x,V x->δ x=t->t<=gp D q (r x)->False:=λx hx e g=>by
   have a:=F.um rv (T.rep x hx).1 hq
   have c:=F.gs rv hq
   have d:=F.gs (T.rep x hx).1 hq
   have f:=F.gs (T.rep x hx).1 rv
   have b:=T.B x v hx hv hv0
   unfold mt at b
   omega
  rcases hx with hx | rfl
  ·rcases hy with hy | rfl
   ·rw[dO x hx,dO y hy] at e1
    rw[dO x hx,rO x hx,rO y hy] at e2
    have E:=T.E x y hx hy hne hx0 hy0 e1 e2
    by_cases ex:x=v
    ·subst ex
     right
     rw[po y hy (λz=>hne z.symm),dO _ (T.pin y hy hy0),dO y hy]
     rcases E with E | E
     ·omega
     ·exact E
    ·by_cases ey:y=v
     ·subst ey
      left
      rw[po x hx ex,dO _ (T.pin x hx hx0),dO x hx]
      rcases E with E | E
      ·exact E
      ·omega
     ·rw[po x hx ex,po y hy ey,dO _ (T.pin x hx hx0),dO x hx,dO _ (T.pin y hy hy0),dO y hy]
      exact E
   ·rw[dO x hx,dj] at e1
    rw[dO x hx,rO x hx,rj] at e2
    exact(key x hx e1 (by have:=F.gs (T.rep x hx).1 hq;omega)).elim
  ·rcases hy with hy | rfl
   ·rw[dO y hy,dj] at e1
    rw[dj,rO y hy,rj] at e2
    exact(key y hy e1.symm e2).elim
   ·exact absurd rfl hne
 ·have h5:=T.rkd v hv hv0
  rcases hx with hx | rfl
  ·by_cases e:x=v
   ·subst e
    rw[pv,if_pos rfl,if_neg (ne hx)]
    omega
   ·rw[po x hx e,if_neg (ne hx),if_neg (ne (T.pin x hx h0))]
    have:=T.rkd x hx h0
    omega
  ·rw[pj,if_neg (ne hu),if_pos rfl]
   omega
end
inductive An (par:Nat->Nat) (y:Nat):Nat->Prop
 |refl:An par y y
 |up {v:Nat}:v≠0->An par y (par v)->An par y v
section
variable {D:Nat->Nat->Int}{n:Nat}{V:Nat->Prop}{r:Nat->Nat}{δ:Nat->Int}{par rk:Nat->Nat}
theorem An.inV (T:Tv D n V r δ par rk){y s:Nat}(h:An par y s)(hs:V s):V y:=by
 induction h with
 |refl=>exact hs
 |up h0 _ ih=>exact ih (T.pin _ hs h0)
theorem An.geo (T:Tv D n V r δ par rk)(F:Fp D n){y s:Nat}(h:An par y s)(hs:V s):δ y<=δ s/\δ y<=gp D (r y) (r s):=by
 induction h with
 |refl=>
  obtain⟨a,b,c⟩:=T.rep y hs
  rw[F.gg a]
  exact⟨nc _,c⟩
 | @up v h0 h ih=>
  have hq:=T.pin v hs h0
  obtain⟨a,b⟩:=ih hq
  obtain⟨c,d⟩:=T.A v hs h0
  have hy:=h.inV T hq
  have e:=F.um (T.rep y hy).1 (T.rep v hs).1 (T.rep _ hq).1
  have f:=F.gs (T.rep v hs).1 (T.rep _ hq).1
  omega
theorem An.rank (T:Tv D n V r δ par rk){y s:Nat}(h:An par y s)(hs:V s):rk y<=rk s:=by
 induction h with
 |refl=>exact ay _
 |up h0 _ ih=>
  have:=ih (T.pin _ hs h0)
  have:=T.rkd _ hs h0
  omega
theorem aES (T:Tv D n V r δ par rk)(F:Fp D n){y:Nat}(hy:V y)(hy0:y≠0)(hd:δ (par y)<δ y):∀(k s:Nat),rk s<=k->V s->δ y<=δ s->δ y<=gp D (r y) (r s)->An par y s:=by
 intro k
 induction k with
 |zero=>
  intro s hk hs h1 h2
  by_cases e:s=y
  ·rw[e];exact .refl
  ·by_cases e0:s=0
   ·subst e0
    have a:=T.zero
    have b:=(T.rep _ (T.pin y hy hy0)).2.1
    omega
   ·have:=T.rkd s hs e0
    omega
 |succ k ih=>
  intro s hk hs h1 h2
  by_cases e:s=y
  ·rw[e];exact .refl
  ·by_cases e0:s=0
   ·subst e0
    have a:=T.zero
    have b:=(T.rep _ (T.pin y hy hy0)).2.1
    omega
   ·have hq:=T.pin s hs e0
    have b:=T.B y s hy hs e0
    have hm:mt D r δ y s=δ y:=by unfold mt;omega
    have le:δ y<=δ (par s):=by
     rcases b with b | b
     ·omega
     ·rcases T.E y s hy hs (λz=>e z.symm) hy0 e0 (by omega) h2 with z | z
      ·omega
      ·omega
    have rkd:=T.rkd s hs e0
    refine .up e0 (ih (par s) (by omega) hq le ?_)
    have c:=F.um (T.rep y hy).1 (T.rep _ hq).1 (T.rep s hs).1
    have d:=(T.A s hs e0).2
    omega
def TL (L:List Ed) (V:Nat->Prop) (δ:Nat->Int) (par:Nat->Nat):Prop:=∀e∈L,∃v,V v/\v≠0/\Jo e v (par v)/\e.2.2=δ v - δ (par v)
theorem aBZ {e:Ed}{x y v u:Nat}(h:Jo e x y)(g:Jo e v u):(x=v/\y=u)\/(x=u/\y=v):=by
 unfold Jo at h g
 rcases h with⟨p,q⟩ | ⟨p,q⟩
 ·rcases g with⟨c,d⟩ | ⟨c,d⟩
  ·exact Or.inl ⟨p.symm.trans c,q.symm.trans d⟩
  ·exact Or.inr ⟨p.symm.trans c,q.symm.trans d⟩
 ·rcases g with⟨c,d⟩ | ⟨c,d⟩
  ·exact Or.inr ⟨q.symm.trans d,p.symm.trans c⟩
  ·exact Or.inl ⟨q.symm.trans d,p.symm.trans c⟩
theorem An.edge {y v:Nat}(h:An par y v)(hn:¬ An par y (par v)):y=v:=by
 cases h with
 |refl=>rfl
 |up _ h=>exact absurd h hn
variable {L:List Ed}{s:Nat}{f:List (Nat×Int)}{m:List (Nat×Nat)}
theorem aKd (tl:TL L V δ par){y:Nat}(hs:An par y s)(g:Gr L s f m):∀z∈vs f,¬ An par y z->y∈vs f:=by
 induction g with
 |one=>
  intro z hz hn
  obtain rfl:z=s:=by simpa[vs] using hz
  exact absurd hs hn
 | @add f m x y' k d e h0 hx hy he hj ih=>
  intro z hz hn
  rw[jP]
  rw[jP] at hz
  refine ck _ ?_
  rcases b9.mp hz with hz | hz
  ·exact ih z hz hn
  ·obtain rfl:z=y':=by simpa using hz
   by_cases c:An par y x
   ·obtain⟨v,hv,v0,jv,_⟩:=tl e (cb he)
    rcases aBZ hj jv with⟨rfl,rfl⟩ | ⟨rfl,rfl⟩
    ·rw[c.edge hn];exact fU hx
    ·exact absurd (.up v0 c) hn
   ·exact ih x (fU hx) c
theorem aHP (tl:TL L V δ par){y:Nat}(hs:¬ An par y s)(g:Gr L s f m):∀z∈vs f,An par y z->par y∈vs f:=by
 induction g with
 |one=>
  intro z hz hn
  obtain rfl:z=s:=by simpa[vs] using hz
  exact absurd hn hs
 | @add f m x y' k d e h0 hx hy he hj ih=>
  intro z hz hn
  rw[jP]
  rw[jP] at hz
  refine ck _ ?_
  rcases b9.mp hz with hz | hz
  ·exact ih z hz hn
  ·obtain rfl:z=y':=by simpa using hz
   by_cases c:An par y x
   ·exact ih x (fU hx) c
   ·obtain⟨v,hv,v0,jv,_⟩:=tl e (cb he)
    rcases aBZ hj jv with⟨rfl,rfl⟩ | ⟨rfl,rfl⟩
    ·exact absurd (.up v0 hn) c
    ·rw[hn.edge c];exact fU hx
def ds (D:Nat->Nat->Int) (r:Nat->Nat) (δ:Nat->Int) (s x:Nat):Int:=δ s+δ x - 2*mt D r δ s x
theorem aKb (T:Tv D n V r δ par rk)(F:Fp D n)(tl:TL L V δ par)(hs:V s)(g:Gr L s f m):∀p∈f,V p.1/\p.2=ds D r δ s p.1:=by
 induction g with
 |one=>
  intro p hp
  rw[bb.mp hp]
  refine⟨hs,?_⟩
  obtain⟨a,b,c⟩:=T.rep s hs
  show 0=ds D r δ s s
  unfold ds mt
  rw[F.gg a]
  omega
 | @add f m x y k d e h0 hx hy he hj ih=>
  intro p hp
  rcases b9.mp hp with hp | hp
  ·exact ih p hp
  ·rw[bb.mp hp]
   obtain⟨v,hv,v0,jv,we⟩:=tl e (cb he)
   have hu:=T.pin v hv v0
   obtain⟨a1,a2⟩:=T.A v hv v0
   have cu:=F.cut (r:=r s) (T.rep _ hu).1 (T.rep v hv).1 (T.rep s hs).1 a2
   have g1:=F.gs (T.rep s hs).1 (T.rep v hv).1
   have g2:=F.gs (T.rep s hs).1 (T.rep _ hu).1
   have mp:mt D r δ s (par v)=min (δ (par v)) (mt D r δ s v):=by unfold mt;first|(rw[g1,g2];exact om3 a1 cu)|omega
   have b:=T.B s v hs hv v0
   have dx:d=ds D r δ s x:=(ih _ hx).2
   show V y/\d+e.2.2=ds D r δ s y
   rcases aBZ hj jv with⟨rfl,rfl⟩ | ⟨rfl,rfl⟩
   ·refine⟨hu,?_⟩
    unfold ds at dx ⊢
    rcases b with b | b
    ·by_cases c:δ (par x)=δ x
     ·omega
     ·have na:¬ An par x s:=λh=>by
       have:=h.geo T F hs
       unfold mt at b
       omega
      exact absurd (aHP tl na h0 x (fU hx) .refl) hy
    ·omega
   ·refine⟨hv,?_⟩
    unfold ds at dx ⊢
    rcases b with b | b
    ·omega
    ·by_cases c:δ (par y)=δ y
     ·omega
     ·have an:An par y s:=aES T F hv v0 (by omega) _ s (ay _) hs (by unfold mt at b;omega) (by unfold mt at b;omega)
      have nq:¬ An par y (par y):=λh=>by
       have:=h.rank T hu
       have:=T.rkd y hv v0
       omega
      exact absurd (aKd tl an h0 (par y) (fU hx) nq) hy
theorem aJX (T:Tv D n V r δ par rk)(F:Fp D n)(tl:TL L V δ par)(t:Tre L){x:Nat}(hs:V s)(ls:s<=L.length)(lx:x<=L.length):wy L s x=ds D r δ s x:=by
 obtain⟨f,m,g,l⟩:=kO t ls
 obtain⟨⟨x1,d⟩,hd,ex⟩:=bj.mp (g.has t ls l (x:=x) (by omega))
 have ex:x1=x:=ex
 subst ex
 rw[<- aAp g l hd]
 exact(aKb T F tl hs g _ hd).2
theorem yN (F:Fp D n){x:Nat}(h1:s<n)(h2:x<n)(r1:r s=s)(r2:r x=x)(d1:δ s=hp D s)(d2:δ x=hp D x):ds D r δ s x=2*D s x:=by
 have a:=F.gh h1 h2
 have b:=F.gh h2 h1
 have c:=F.gs h1 h2
 unfold ds mt
 rw[r1,r2,d1,d2]
 unfold gp hp at *
 omega
end
def aAI (f:Fw) (x:Nat) (o:Int):Fw:=f.map λe=>if e.1=x then(e.1,o) else e
theorem aIJ {f:Fw}{x:Nat}{o:Int}:ks (aAI f x o)=ks f:=by
 unfold ks aAI
 rw[fj]
 refine fe λe _=>?_
 show(if e.1=x then(e.1,o) else e).1=e.1
 split <;> rfl
theorem aCj {x:Nat}{o:Int}{f:Fw}(h:x∈ks f):pX (kvI f) (.inl (x:Int)) (.int o)=kvI (aAI f x o):=by
 have:((kvI f).any λkv=>decide (kv.1=(.inl (x:Int):Key)))=true:=by
  obtain⟨e,he,ee⟩:=bj.mp h
  refine ny.mpr ⟨(.inl (e.1:Int), .int e.2),bj.mpr ⟨e,he,rfl⟩,decide_eq_true ?_⟩
  have ee:e.1=x:=ee
  show(Sum.inl (e.1:Int):Key) = .inl (x:Int)
  rw[ee]
 unfold pX
 rw[if_pos this]
 unfold kvI aAI
 rw[fj,fj]
 refine fe λe _=>?_
 show(if(Sum.inl (e.1:Int):Key) = .inl (x:Int) then((Sum.inl (e.1:Int):Key),V.int o) else(.inl (e.1:Int), .int e.2))=(.inl (((if e.1=x then(e.1,o) else e).1:Nat):Int), .int (if e.1=x then(e.1,o) else e).2)
 by_cases c:e.1=x
 ·rw[if_pos c,if_pos (by rw[c])]
 ·rw[if_neg c,if_neg (λz=>c (by have:=xx z;omega))]
theorem aGt {f:Fw}{x v:Nat}{o u:Int}(h:x∈ks f):(v,u)∈aAI f x o↔(v=x/\u=o)\/(v≠x/\(v,u)∈f):=by
 unfold aAI
 constructor
 ·intro hm
  obtain⟨e,he,ee⟩:=bj.mp hm
  by_cases c:e.1=x
  ·rw[if_pos c] at ee
   cases ee
   exact .inl ⟨c,rfl⟩
  ·rw[if_neg c] at ee
   subst ee
   exact .inr ⟨c,he⟩
 ·rintro(⟨rfl,rfl⟩ | ⟨c,hm⟩)
  ·obtain⟨e,he,ee⟩:=bj.mp h
   have ee:e.1=v:=ee
   exact bj.mpr ⟨e,he,by rw[if_pos ee,ee]⟩
  ·exact bj.mpr ⟨_,hm,by rw[if_neg c]⟩
theorem aBN {f:Fw}{x:Nat}{o:Int}(nd:(ks f).Nodup)(h:(x,o)∈f):sE (kvI f) (.inl (x:Int))=some (.int o):=by
 obtain⟨o',h1,h2⟩:=qL (show x∈ks f from bj.mpr ⟨_,h,rfl⟩)
 rw[h1,jX nd h h2]
theorem rZ {f:Fw}{x v:Nat}{o u:Int}:(v,u)∈f++[(x,o)]↔(v,u)∈f\/(v=x/\u=o):=by
 rw[b9,bb]
 constructor
 ·rintro(h | h)
  ·exact .inl h
  ·cases h;exact .inr ⟨rfl,rfl⟩
 ·rintro(h | ⟨rfl,rfl⟩)
  ·exact .inl h
  ·exact .inr rfl
structure Hs (D:Nat->Nat->Int)(n p J:Nat)(A Z:Fw)(V:Nat->Prop)(r:Nat->Nat)(δ:Nat->Int)(par rk:Nat->Nat):Prop where
 tv:Tv D n V r δ par rk
 rp:∀v,V v->r v<p
 na:(ks A).Nodup
 ma:∀v u,(v,u)∈A↔V v/\v≠0/\u=(par v:Int)
 nz:(ks Z).Nodup
 mz:∀v d,(v,d)∈Z↔V v/\d=δ v
section
variable {D:Nat->Nat->Int}{n p J:Nat}{A Z:Fw}{V:Nat->Prop}{r:Nat->Nat}{δ:Nat->Int}{par rk:Nat->Nat}
theorem Hs.zin (h:Hs D n p J A Z V r δ par rk){v:Nat}:v∈ks Z↔V v:=by
 constructor
 ·intro hm
  obtain⟨⟨x,d⟩,he,ee⟩:=bj.mp hm
  have ee:x=v:=ee
  subst ee
  exact((h.mz _ _).mp he).1
 ·intro hv
  exact bj.mpr ⟨(v,δ v),(h.mz _ _).mpr ⟨hv,rfl⟩,rfl⟩
theorem Hs.ain (h:Hs D n p J A Z V r δ par rk){v:Nat}:v∈ks A↔V v/\v≠0:=by
 constructor
 ·intro hm
  obtain⟨⟨x,d⟩,he,ee⟩:=bj.mp hm
  have ee:x=v:=ee
  subst ee
  have:=(h.ma _ _).mp he
  exact⟨this.1,this.2.1⟩
 ·intro hv
  exact bj.mpr ⟨(v,(par v:Int)),(h.ma _ _).mpr ⟨hv.1,hv.2,rfl⟩,rfl⟩
theorem Hs.zval (h:Hs D n p J A Z V r δ par rk){v:Nat}(hv:V v):sE (kvI Z) (.inl (v:Int))=some (.int (δ v)):=aBN h.nz ((h.mz _ _).mpr ⟨hv,rfl⟩)
theorem Hs.aval (h:Hs D n p J A Z V r δ par rk){v:Nat}(hv:V v)(h0:v≠0):sE (kvI A) (.inl (v:Int))=some (.int (par v:Int)):=aBN h.na ((h.ma _ _).mpr ⟨hv,h0,rfl⟩)
theorem Hs.znew (h:Hs D n p J A Z V r δ par rk){j:Nat}(hj:¬ V j):j∉ks Z:=λz=>hj (h.zin.mp z)
theorem Hs.anew (h:Hs D n p J A Z V r δ par rk){j:Nat}(hj:¬ V j):j∉ks A:=λz=>hj (h.ain.mp z).1
theorem xV {f:Fw}{x:Nat}{o:Int}(nd:(ks f).Nodup)(h:x∉ks f):(ks (f++[(x,o)])).Nodup:=by
 rw[lA,mw]
 exact⟨nd,by simp,λa ha b hb e=>h (by rw[bb.mp hb] at e;exact e ▸ ha)⟩
theorem Hs.leaf (h:Hs D n p J A Z V r δ par rk)(F:Fp D n){w:Nat}(hw:V w)(hpn:p<n)(hp0:¬ V p)(h1:δ w<=hp D p)(h2:δ w<=gp D (r w) p)(h3:∀s,V s->gp D p (r s)<=δ w) :
  Hs D n (p+1) J (A++[(p,(w:Int))]) (Z++[(p,hp D p)]) (λv=>V v\/v=p) (upF r p p) (upF δ p (hp D p)) (upF par p w) (upF rk p (rk w+1)):=by
 have ne:∀{v},V v->v≠p:=λh e=>hp0 (e ▸ h)
 have p0:p≠0:=λe=>hp0 (e ▸ h.tv.root)
 refine⟨h.tv.leaf F hw hpn hp0 h1 h2 h3,λv hv=>?_,xV h.na (h.anew hp0),λv u=>?_,xV h.nz (h.znew hp0),λv d=>?_⟩
 ·rcases hv with hv | rfl
  ·rw[aV (ne hv)];have:=h.rp v hv;omega
  ·rw[aU];exact nr _
 ·rw[rZ,h.ma]
  constructor
  ·rintro(⟨a,b,c⟩ | ⟨rfl,rfl⟩)
   ·exact⟨.inl a,b,by rw[aV (ne a)];exact c⟩
   ·exact⟨.inr rfl,p0,by rw[aU]⟩
  ·rintro⟨a | rfl,b,c⟩
   ·exact .inl ⟨a,b,by rw[aV (ne a)] at c;exact c⟩
   ·exact .inr ⟨rfl,by rw[aU] at c;exact c⟩
 ·rw[rZ,h.mz]
  constructor
  ·rintro(⟨a,c⟩ | ⟨rfl,rfl⟩)
   ·exact⟨.inl a,by rw[aV (ne a)];exact c⟩
   ·exact⟨.inr rfl,by rw[aU]⟩
  ·rintro⟨a | rfl,c⟩
   ·exact .inl ⟨a,by rw[aV (ne a)] at c;exact c⟩
   ·exact .inr ⟨rfl,by rw[aU] at c;exact c⟩
theorem Hs.ins (h:Hs D n p J A Z V r δ par rk)(F:Fp D n){v j q p':Nat}{t:Int}(hv:V v)(hv0:v≠0)(hj:¬ V j)(hq:q<n)(hqp:q<p')(hpp:p<=p')(h1:δ (par v)<t)(h2:t<δ v)(h3:t<=hp D q)(h4:t<=gp D q (r v)) :
  Hs D n p' J (aAI (A++[(j,(par v:Int))]) v (j:Int)) (Z++[(j,t)]) (λx=>V x\/x=j) (upF r j q) (upF δ j t) (upF (upF par j (par v)) v j) (λx=>if x=j then 2*rk v - 1 else 2*rk x):=by
 have ne:∀{x},V x->x≠j:=λh e=>hj (e ▸ h)
 have j0:j≠0:=λe=>hj (e ▸ h.tv.root)
 have vk:v∈ks (A++[(j,(par v:Int))]):=by rw[lA];exact ck _ (h.ain.mpr ⟨hv,hv0⟩)
 refine⟨h.tv.ins F hv hv0 hj hq h1 h2 h3 h4,λx hx=>?_,by rw[aIJ];exact xV h.na (h.anew hj),λx u=>?_,xV h.nz (h.znew hj),λx d=>?_⟩
 ·rcases hx with hx | rfl
  ·rw[aV (ne hx)];have:=h.rp x hx;omega
  ·rw[aU];exact hqp
 ·rw[aGt vk,rZ,h.ma]
  constructor
  ·rintro(⟨rfl,rfl⟩ | ⟨a,⟨b,c,d⟩ | ⟨rfl,rfl⟩⟩)
   ·exact⟨.inl hv,hv0,by rw[aU]⟩
   ·exact⟨.inl b,c,by rw[aV a,aV (ne b)];exact d⟩
   ·exact⟨.inr rfl,j0,by rw[aV a,aU]⟩
  ·rintro⟨a | rfl,b,c⟩
   ·by_cases e:x=v
    ·subst e
     rw[aU] at c
     exact .inl ⟨rfl,c⟩
    ·rw[aV e,aV (ne a)] at c
     exact .inr ⟨e, .inl ⟨a,b,c⟩⟩
   ·rw[aV (ne hv).symm,aU] at c
    exact .inr ⟨(ne hv).symm, .inr ⟨rfl,c⟩⟩
 ·rw[rZ,h.mz]
  constructor
  ·rintro(⟨a,c⟩ | ⟨rfl,rfl⟩)
   ·exact⟨.inl a,by rw[aV (ne a)];exact c⟩
   ·exact⟨.inr rfl,by rw[aU]⟩
  ·rintro⟨a | rfl,c⟩
   ·exact .inl ⟨a,by rw[aV (ne a)] at c;exact c⟩
   ·exact .inr ⟨rfl,by rw[aU] at c;exact c⟩
end
def Ht (D:Nat->Nat->Int) (n p:Nat) (A Z:Fw):Prop:=∃(J:Nat) (V:Nat->Prop) (r:Nat->Nat) (δ:Nat->Int) (par rk:Nat->Nat),Hs D n p J A Z V r δ par rk/\(∀v,V v↔v<p\/(n<=v/\v<n+J))/\(∀v,v<p->r v=v/\δ v=hp D v)/\Z.length=p+J/\A.length+1=p+J/\J<=p - 2
theorem aHf {D:Nat->Nat->Int}{n:Nat}(F:Fp D n):Ht D n 1 [] [(0,0)]:=by
 refine⟨0,λv=>v=0,λ_=>0,λ_=>0,λ_=>0,λ_=>0,⟨aIE F,λv _=>Nat.zero_lt_one,kd,λv u=>?_,by simp[ks],λv d=>?_⟩,λv=>?_,λv hv=>?_,rfl,rfl,bc _⟩
 ·constructor
  ·intro h;cases h
  ·rintro⟨a,b,_⟩;exact absurd a b
 ·constructor
  ·intro h
   cases bb.mp h
   exact⟨rfl,rfl⟩
  ·rintro⟨rfl,rfl⟩;simp
 ·show v=0↔_
  omega
 ·obtain rfl:v=0:=by omega
  refine⟨rfl,?_⟩
  have:=F.z 0 F.pos
  show(0:Int)=2*D 0 0
  omega
section
variable {K:aa}
def aIY (K:aa):TS:=(aT (gP (cF (tOp yGt (iJ (aF 2) (aF 5)) (aF 4))) (aT (bU (tIf (cF (tOp (nG K) (aF 6) (aF 4))) (aF 3) (tOp vN (tOp (bK K) (tCB (lZ K) (aC (aF 0) aR)) (tCB aIV (aC (aF 2) aR))) (aF 3))) (aI 7)) (aT (lU (aF 1) (aF 7) (iJ (aF 1) (aF 5))) (aT (lU (aF 2) (aF 7) (aF 4)) (aT (lU (aF 1) (aF 5) (aF 7)) (aT (bU (aF 7) (aI 5)) aQ))))) aQ) (aT (gP (cF (tOp (aAc K) (aF 5) (aF 3))) (aT (lU (aF 1) (aF 3) (aF 5)) (aT (lU (aF 2) (aF 3) (aF 6)) aQ)) aQ) aQ))
theorem vM {T:List (List Int)}{n:Nat}{H:Hp}{σ:St}{t sj:Nat}{v:V}{j:Nat}{Q:VK}(ht:σ[t]?=some (some v))(hj:σ[sj]?=some (some (.int (j:Int))))(hS:Sh K H (gY T) v)(hq:Quad T n)(l0:0<n)(lj:j<n)
  (q:Q (.int (at2 T 0 j)) H):tOp (bO K) (tOp (bO K) (aF t) (tC (.int 0))) (aF sj) σ H Q:=by
 refine⟨_,ht,rA (i:=0) hS hq l0 λb hb=>⟨_,hj,ixT hb ?_ q⟩⟩
 obtain⟨row,e1,e2,e3⟩:=hq.get l0
 rw[az,L2.fQ (by rw[e3];omega)]
 rfl
theorem aJA {x y:Int}{H:Hp}{Q:VK}(q:Q (.int (x+y)) H):bK K (.int x) (.int y) H Q:=q
def SameY (a d:Addr) (H H':Hp):Prop:=∀b o,b≠a->b≠d->H b=some o->H' b=some o
theorem SameY.put {a d c:Addr}{H H':Hp}{o:HO}(h:SameY a d H H')(hc:c=a\/c=d):SameY a d H (upd H' c o):=λb u h1 h2 e=>by
 rw[aL (by rcases hc with rfl | rfl <;> assumption)]
 exact h b u h1 h2 e
inductive yQ (K : aa) (vs : List V) (H : Hp) (Q : VK) : Prop
 |mk (v : V) (a d : Addr) (T : List (List Int)) (n p : Nat) (A Z : Fw) (h0 : vs = [v, .ref a, .ref d, .int (p : Int)]) (h1 : Sh K H (gY T) v) (h2 : Quad T n) (h3 : n <= 8) (h4 : Fp (at2 T) n) (h5 : 1 <= p) (h6 : p < n) (h7 : a ≠ d) (h8 : H a = some (.dK (kvI A))) (h9 : H d = some (.dK (kvI Z))) (h10 : Ht (at2 T) n p A Z) (h11 : ∀A' Z' H', SameY a d H H' -> H' a = some (.dK (kvI A')) -> H' d = some (.dK (kvI Z')) -> Ht (at2 T) n (p + 1) A' Z' -> Q .non H') : yQ K vs H Q
def aEA (K:aa):Sp:=λvs H Q _=>yQ K vs H Q
theorem aDE {Df:hU}{v:V}{a d:Addr}{T:List (List Int)}{n p J w:Nat}{t:Int}{A Z:Fw}{V0:Nat->Prop}{r:Nat->Nat}{δ:Nat->Int}{par rk:Nat->Nat}{H:Hp}(hS:Sh K H (gY T) v)(qT:Quad T n)(n8:n<=8)(F:Fp (at2 T) n)(p1:1<=p)(hpn:p<n)(had:a≠d)(ha:H a=some (.dK (kvI A)))(hd:H d=some (.dK (kvI Z)))
  (hs:Hs (at2 T) n p J A Z V0 r δ par rk) (hV:∀x,V0 x↔x<p\/(n<=x/\x<n+J)) (hpl:∀x,x<p->r x=x/\δ x=hp (at2 T) x) (zl:Z.length=p+J) (al:A.length+1=p+J) (hJ:J<=p - 2)
  (hw:V0 w) (t0:0<=t) (th:t<=hp (at2 T) p) (f1:t<=gp (at2 T) (r w) p) (mx:∀o,o<p->gp (at2 T) p o<=t) (cs:δ w=t\/(δ (par w)<t/\t<δ w))
  (q:∀σ' A' Z' H',SameY a d H H'->H' a=some (.dK (kvI A'))->H' d=some (.dK (kvI Z'))->Ht (at2 T) n (p+1) A' Z'->Df.nx σ' H') :
  aIY K Df [some v,some (.ref a),some (.ref d),some (.int (p:Int)),some (.int t),some (.int (w:Int)),some (.int (hp (at2 T) p)),none] H:=by
 have np:¬ V0 p:=λh=>by have:=(hV p).mp h;omega
 have nj:¬ V0 (n+J):=λh=>by have:=(hV _).mp h;omega
 have kl:∀{f:Fw},f.length<=100->(kvI f).length<ba:=λh=>cw (show _<=100 by rw[mH];exact h) (by decide)
 have tvw:=hs.zval hw
 have g2:t<=gp (at2 T) p (r w):=by rw[F.gs hpn (hs.tv.rep w hw).1];exact f1
 refine⟨_,rfl,_,rfl,d,_,rfl,aAG hd tvw,_,rfl,_,_,rfl,rfl,_,rfl,?_⟩
 rcases cs with cs | ⟨c1,c2⟩
 ·refine cB (decide_eq_false (by omega)) ?_
  refine⟨_,rfl,_,rfl, .int _, .int _,bc _,rfl,rfl,_,rfl,?_⟩
  have wp:w≠p:=λe=>np (e ▸ hw)
  rw[yT]
  refine cD (by rw[decide_eq_false (by omega)];rfl) ?_
  refine⟨_,rfl,_,rfl,_,rfl,a,_,rfl,DPut.k (k := .inl (p:Int)) ha (kl (by omega)),?_⟩
  rw[fL (hs.anew np)]
  refine⟨_,rfl,_,rfl,_,rfl,d,_,rfl,DPut.k (k := .inl (p:Int)) (kvs:=kvI Z) (by rw[aL had.symm];exact hd) (kl (by omega)),?_⟩
  rw[fL (hs.znew np)]
  refine q _ (A++[(p,(w:Int))]) (Z++[(p,hp (at2 T) p)]) _ (SameY.put (SameY.put (λb o _ _ e=>e) (.inl rfl)) (.inr rfl)) (by rw[aL had];exact aD) aD ?_
  refine⟨J,_,_,_,_,_,hs.leaf F hw hpn np (by omega) (by omega) (λs hs'=>by have:=mx _ (hs.rp s hs');omega),λx=>?_,λx hx=>?_,by rw[ao,zl];simp;omega,by rw[ao];simp;omega,by omega⟩
  ·show V0 x\/x=p↔_
   rw[hV]
   omega
  ·by_cases e:x=p
   ·subst e;rw[aU,aU];exact⟨rfl,rfl⟩
   ·rw[aV e,aV e];exact hpl x (by omega)
 ·have w0:w≠0:=λe=>by
   rw[e] at c2
   have:=hs.tv.zero
   omega
  have p2:2<=p:=by
   apply ez
   intro c
   have:=(hV w).mp hw
   omega
  refine cD (decide_eq_true (by omega)) ?_
  refine⟨_,rfl,_,rfl, .int _, .int _,bc _,rfl,rfl,_,rfl,?_⟩
  rw[dP]
  by_cases e:hp (at2 T) p=t
  ·refine cD (decide_eq_true e) ⟨_,rfl,?_⟩
   refine⟨_,rfl,_,rfl,a,_,rfl,aAG ha (hs.aval hw w0),_,rfl,_,rfl,a,_,rfl,DPut.k (k := .inl (p:Int)) ha (kl (by omega)),?_⟩
   rw[fL (hs.anew np)]
   refine⟨_,rfl,_,rfl,_,rfl,d,_,rfl,DPut.k (k := .inl (p:Int)) (kvs:=kvI Z) (by rw[aL had.symm];exact hd) (kl (by omega)),?_⟩
   rw[fL (hs.znew np)]
   refine⟨_,rfl,_,rfl,_,rfl,a,_,rfl,DPut.k (k := .inl (w:Int)) (kvs:=kvI (A++[(p,(par w:Int))])) (by rw[aL had];exact aD) (kl (by rw[ao];simp;omega)),?_⟩
   rw[aCj (by rw[lA];exact ck _ (hs.ain.mpr ⟨hw,w0⟩))]
   refine⟨_,rfl,?_⟩
   refine⟨_,rfl,_,rfl, .int _, .int _,bc _,rfl,rfl,_,rfl,?_⟩
   rw[yT]
   refine cB (by rw[decide_eq_true rfl];rfl) ?_
   refine q _ (aAI (A++[(p,(par w:Int))]) w (p:Int)) (Z++[(p,t)]) _ (SameY.put (SameY.put (SameY.put (λb o _ _ e=>e) (.inl rfl)) (.inr rfl)) (.inl rfl)) aD (by rw[aL had.symm];exact aD) ?_
   refine⟨J,_,_,_,_,_,hs.ins (p':=p+1) (q:=p) (t:=t) F hw w0 np hpn (nr _) (om _) c1 c2 (by omega) g2,λx=>?_,λx hx=>?_,by rw[ao,zl];simp;omega,by unfold aAI;rw[ai,ao];simp;omega,by omega⟩
   ·show V0 x\/x=p↔_
    rw[hV]
    omega
   ·by_cases e':x=p
    ·subst e';rw[aU,aU];exact⟨rfl,e.symm⟩
    ·rw[aV e',aV e'];exact hpl x (by omega)
  ·refine cB (decide_eq_false e) ?_
   obtain⟨ta,rs,rfl,hta,hrl,_⟩:=id hS.tab
   have rn:rs.length=n:=hrl.trans qT.len
   refine⟨_,rfl,ta,rs,rfl, .inr hta,_,rfl,d,_,rfl,hd,?_⟩
   have ej:(rs.length:Int)+((kvI Z).length:Int) - (p:Int)=((n+J:Nat):Int):=by
    rw[mH,zl,rn]
    omega
   refine aJA ⟨_,rfl,_,_,rfl,rfl,?_⟩
   rw[ej]
   refine⟨_,rfl,_,rfl,a,_,rfl,aAG ha (hs.aval hw w0),_,rfl,_,rfl,a,_,rfl,DPut.k (k := .inl ((n+J:Nat):Int)) ha (kl (by omega)),?_⟩
   rw[fL (hs.anew nj)]
   refine⟨_,rfl,_,rfl,_,rfl,d,_,rfl,DPut.k (k := .inl ((n+J:Nat):Int)) (kvs:=kvI Z) (by rw[aL had.symm];exact hd) (kl (by omega)),?_⟩
   rw[fL (hs.znew nj)]
   refine⟨_,rfl,_,rfl,_,rfl,a,_,rfl,DPut.k (k := .inl (w:Int)) (kvs:=kvI (A++[(n+J,(par w:Int))])) (by rw[aL had];exact aD) (kl (by rw[ao];simp;omega)),?_⟩
   rw[aCj (by rw[lA];exact ck _ (hs.ain.mpr ⟨hw,w0⟩))]
   have hs2:=hs.ins (p':=p) (q:=r w) (t:=t) F hw w0 nj (hs.tv.rep w hw).1 (hs.rp w hw) (ay _) c1 c2 (by have:=(hs.tv.rep w hw).2.2;omega) (by rw[F.gg (hs.tv.rep w hw).1];have:=(hs.tv.rep w hw).2.2;omega)
   have np2:¬ (V0 p\/p=n+J):=λh=>by rcases h with h | h;exact np h;omega
   have ld:upF δ (n+J) t (n+J)=t:=aU
   have lr:upF r (n+J) (r w) (n+J)=r w:=aU
   have hs3:=hs2.leaf F (w:=n+J) (.inr rfl) hpn np2 (by rw[ld];exact th) (by rw[ld,lr];exact f1) (λs hs'=>by rw[ld];exact mx _ (hs2.rp s hs'))
   refine⟨_,rfl,?_⟩
   refine⟨_,rfl,_,rfl, .int _, .int _,bc _,rfl,rfl,_,rfl,?_⟩
   rw[yT]
   refine cD (by rw[decide_eq_false (by omega)];rfl) ?_
   refine⟨_,rfl,_,rfl,_,rfl,a,_,rfl,DPut.k (k := .inl (p:Int)) (kvs:=kvI (aAI (A++[(n+J,(par w:Int))]) w ((n+J:Nat):Int))) aD (kl (by unfold aAI;rw[ai,ao];simp;omega)),?_⟩
   rw[fL (hs2.anew np2)]
   refine⟨_,rfl,_,rfl,_,rfl,d,_,rfl,DPut.k (k := .inl (p:Int)) (kvs:=kvI (Z++[(n+J,t)])) (by rw[aL had.symm,aL had.symm];exact aD) (kl (by rw[ao];simp;omega)),?_⟩
   rw[fL (hs2.znew np2)]
   refine q _ _ _ _ (SameY.put (SameY.put (SameY.put (SameY.put (SameY.put (λb o _ _ e=>e) (.inl rfl)) (.inr rfl)) (.inl rfl)) (.inl rfl)) (.inr rfl)) (by rw[aL had];exact aD) aD ?_
   have hs4:Hs (at2 T) n (p+1) (J+1) _ _ _ _ _ _ _:=⟨hs3.tv,hs3.rp,hs3.na,hs3.ma,hs3.nz,hs3.mz⟩
   refine⟨J+1,_,_,_,_,_,hs4,λx=>?_,λx hx=>?_,by rw[ao,ao,zl];simp;omega,by rw[ao];unfold aAI;rw[ai,ao];simp;omega,by omega⟩
   ·show(V0 x\/x=n+J)\/x=p↔_
    rw[hV]
    omega
   ·by_cases e':x=p
    ·subst e';rw[aU,aU];exact⟨rfl,rfl⟩
    ·rw[aV e',aV e',aV (by omega),aV (by omega)];exact hpl x (by omega)
theorem zI {x y x' y':Int}(h:dA [x,y] [x',y']=false):x'<=x:=by
 unfold dA at h
 by_cases e:x=x'
 ·omega
 ·rw[if_neg e] at h
  have:=of_decide_eq_false h
  omega
theorem aGG:∀vs H Q E,aEA K vs H Q E->aEN K { nx:=λ_ H'=>Q .non H',rt:=Q } (start ["table","above","depths","place","fork","spot","depth","joint"] vs) H:=by
 intro vs H Q E h
 obtain⟨v,a,d,T,n,p,A,Z,rfl,hS,qT,n8,F,p1,hpn,had,ha,hd,ht,q⟩:=h
 obtain⟨J,V0,r,δ,par,rk,hs,hV,hpl,zl,al,hJ⟩:=ht
 have n0:0<n:=by omega
 refine⟨_,rfl,(p:Int),rfl,by omega,by omega,λB hB=>?_⟩
 rw[cx]
 refine nM (lo:=0) (n:=p) (vars:=[0]) (λi L H'=>Rows K H' L ((aw i).map λo=>[at2 T 0 p+at2 T 0 o - at2 T o p,(o:Int)])) (by decide) (by show 0<3;decide) Rows.nil hB (λi σ2 H2 L2 Df hi l2 ag g0 sm hB2 hR hD=>?_) λσ2 H2 L2 sm hB2 hR=>?_
 ·have t1:σ2[1]?=some (some v):=(ag 1 (by decide)).trans rfl
  have t2:σ2[2]?=some (some (.int (p:Int))):=(ag 2 (by decide)).trans rfl
  rw[fw] at g0
  have hS2:=hS.same sm
  refine vM t1 t2 hS2 qT n0 hpn (vM t1 g0 hS2 qT n0 (by omega) (aJA (dL t1 g0 t2 hS2 qT (by omega) hpn ⟨_,_,rfl,rfl,_,g0,show 2<=ba by decide,λz hz=>?_⟩)))
  have sz:=aG hz (.tup [V.int (at2 T 0 p+at2 T 0 i - at2 T i p), .int (i:Int)])
  have hBz:=sz _ _ hB2
  refine⟨L2,hBz,?_,hD σ2 _ _ l2 ag (dQ hB (sm.trans sz)) aD ?_⟩
  ·rw[hR.1,ai,cz]
   exact cw (show i<=8 by omega) (by decide)
  ·rw[ot,bu]
   exact Rows.snoc (Rows.put (hR.same sz) hBz) (dJ (.of aD) hBz)
 ·have rl:((aw p).map λo=>[at2 T 0 p+at2 T 0 o - at2 T o p,(o:Int)]).length=p:=by rw[ai,cz]
  refine⟨B,L2,_,rfl, .inl (.of hB2),hR,λe=>by rw[e] at rl;simp at rl;omega,λi b row hx hrow hb hmax=>?_⟩
  have hip:i<p:=by rw[<- rl];exact(au.mp hrow).1
  rw[az,vy hip] at hrow
  have er:row=[at2 T 0 p+at2 T 0 i - at2 T i p,(i:Int)]:=(da hrow).symm
  have eg:∀o,o<p->at2 T 0 p+at2 T 0 o - at2 T o p=gp (at2 T) p o:=λo ho=>by
   have:=F.sy o p (by omega) hpn
   unfold gp
   omega
  have mx:∀o,o<p->gp (at2 T) p o<=gp (at2 T) p i:=λo ho=>by
   have h1:=hmax [at2 T 0 p+at2 T 0 o - at2 T o p,(o:Int)] (bj.mpr ⟨o,cf.mpr ho,rfl⟩)
   rw[er] at h1
   have:=zI h1
   rw[eg o ho,eg i hip] at this
   exact this
  subst er
  rw[eg i hip] at hb
  refine⟨b,_,rfl,hb,rfl, .int (gp (at2 T) p i),[.int (i:Int)],rfl, .int (i:Int),[],rfl,rfl,?_⟩
  have hS2:=hS.same sm
  refine vM (j:=p) rfl rfl hS2 qT n0 hpn ⟨.inl (.inl ⟨by decide,by decide⟩),?_⟩
  obtain⟨t,et⟩:∃t,t=gp (at2 T) p i:=⟨_,rfl⟩
  rw[<- et] at mx
  rw[<- et]
  have t0:0<=t:=by rw[et];exact F.gn hpn (by omega)
  have th:t<=hp (at2 T) p:=by rw[et];exact F.gh hpn (by omega)
  have vi:V0 i:=(hV i).mpr (.inl hip)
  obtain⟨ri,di⟩:=hpl i hip
  have ha2:=sm _ _ ha
  have hd2:=sm _ _ hd
  have go:∀w,V0 w->t<=gp (at2 T) (r w) p->(δ w=t\/(δ (par w)<t/\t<δ w))->aIY K { nx:=λ_ H'=>Q .non H',rt:=Q } [some v,some (.ref a),some (.ref d),some (.int (p:Int)),some (.int t),some (.int (w:Int)),some (.int (hp (at2 T) p)),none] H2:=λw hw f2 cs=>
   aDE hS2 qT n8 F p1 hpn had ha2 hd2 hs hV hpl zl al hJ hw t0 th f2 mx cs λ_ A' Z' H' sy h1 h2 h3=>q A' Z' H' (λb o c1 c2 e=>sy b o c1 c2 (sm _ _ e)) h1 h2 h3
  refine⟨λm σ' H'=>H'=H2/\∃w,m=rk w/\σ'=[some v,some (.ref a),some (.ref d),some (.int (p:Int)),some (.int t),some (.int (w:Int)),some (.int (hp (at2 T) p)),none]/\V0 w/\t<=δ w/\t<=gp (at2 T) (r w) p,⟨rk i,rfl,i,rfl,rfl,vi,by rw[di,et,F.gs hpn (by omega)];exact F.gh (by omega) hpn,by rw[ri,et,F.gs hpn (by omega)];exact nc _⟩,?_⟩
  rintro m σ' H' ⟨rfl,w,rfl,rfl,hw,f1,f2⟩
  refine⟨_,rfl,_,rfl,d,_,rfl,aAG hd2 (hs.zval hw),_,rfl,_,_,rfl,rfl,_,rfl,?_⟩
  by_cases c1:δ w > t
  ·have w0:w≠0:=λe=>by
    rw[e] at c1
    have:=hs.tv.zero
    omega
   have hu:=hs.tv.pin w hw w0
   refine cD (decide_eq_true c1) ⟨_,rfl,_,rfl,_,rfl,a,_,rfl,aAG ha2 (hs.aval hw w0),d,_,rfl,aAG hd2 (hs.zval hu),_,rfl,_,_,rfl,rfl,_,rfl,?_⟩
   by_cases c2:δ (par w)≥t
   ·refine cD (decide_eq_true c2) ⟨λσ2 H2'=>H2'=H'/\∃w',rk w'<rk w/\σ2=[some v,some (.ref a),some (.ref d),some (.int (p:Int)),some (.int t),some (.int (w':Int)),some (.int (hp (at2 T) p)),none]/\V0 w'/\t<=δ w'/\t<=gp (at2 T) (r w') p,λσ2 H2' ⟨e,w',h1,h2,h3⟩=>⟨rk w',h1,e,w',rfl,h2,h3⟩,?_⟩
    refine⟨_,rfl,_,rfl,a,_,rfl,aAG ha2 (hs.aval hw w0),rfl,par w,hs.tv.rkd w hw w0,rfl,hu,c2,?_⟩
    have u1:=F.um (hs.tv.rep _ hu).1 hpn (hs.tv.rep w hw).1
    have u2:=F.gs hpn (hs.tv.rep w hw).1
    have u3:=(hs.tv.A w hw w0).2
    omega
   ·exact cB (decide_eq_false c2) (go w hw f2 (.inr ⟨by omega,c1⟩))
  ·exact cB (decide_eq_false c1) (cB rfl (go w hw f2 (.inl (by omega))))
end
section
variable {K:aa}{H H':Hp}
def Dw (K:aa) (H:Hp) (a:Addr) (qs:List Tq):Prop:=∃xs,SqT K H a xs/\iI K H xs (qs.map zU)
theorem Dw.same {a:Addr}{qs:List Tq}(h:Dw K H a qs)(s:Same H H'):Dw K H' a qs:=let⟨xs,h1,h2⟩:=h;⟨xs,s.tup h1,iH h2 s⟩
theorem Dw.x {a p:Addr}{L:List V}{qs:List Tq}(h:Dw K H a qs)(hp:H p=some (.lst L))(s:SameX p H H'):Dw K H' a qs:=let⟨xs,h1,h2⟩:=h;⟨xs,vY h1 hp s,wW h2 λ_ _ hb=>vY hb hp s⟩
theorem aGR (qs:List Tq):(qs.map zU).map aKU=qs.map pA:=by rw[fj];exact fe λq _=>rfl
theorem Dw.sh {a:Addr}{qs:List Tq}(h:Dw K H a qs):Sh K H (.tup (qs.map pA)) (.ref a):=let⟨xs,h1,h2⟩:=h;⟨a,xs,rfl,h1,by rw[<- aGR];exact uA h2⟩
end
theorem gd2 {t:Int}:gd t 2=if t % 2=0 then 2 else 1:=by
 unfold gd
 have h1:AN t 2 ∣ 2:=by have:=Int.gcd_dvd_natAbs_right t 2;exact this
 have h3:AN t 2<=2:=Nat.le_of_dvd (by decide) h1
 have h4:0<AN t 2:=Int.gcd_pos_of_ne_zero_right _ (by decide)
 have h2:((AN t 2:Nat):Int) ∣ t:=Int.gcd_dvd_left ..
 by_cases c:t % 2=0
 ·rw[if_pos c]
  have h5:(2:Int) ∣ ((AN t 2:Nat):Int):=Int.dvd_coe_gcd (Int.dvd_of_emod_eq_zero c) (Int.dvd_refl _)
  omega
 ·rw[if_neg c]
  rcases(show AN t 2=1\/AN t 2=2 by omega) with e | e
  ·rw[e];rfl
  ·rw[e] at h2
   omega
structure Half (t:Int)(c e:Int):Prop where
 c0:0<=c
 e1:1<=e
 e2:e<=2
 g:c.gcd e=1
 m:c*2=t*e
section
variable {K:aa}
inductive aAR (K : aa) (vs : List V) (H : Hp) (Q : VK) : Prop
 |mk (t : Int) (h0 : vs = [.int t, .int 2]) (h1 : 0 <= t) (h2 : ∀z c e H', Same H H' -> SqT K H' z [.int c, .int e] -> Half t c e -> Q (.ref z) H') : aAR K vs H Q
def aHK (K:aa):Sp:=λvs H Q _=>aAR K vs H Q
theorem aID:∀vs H Q E,aHK K vs H Q E->yE K aKP { nx:=λ_ H'=>Q .non H',rt:=Q } (start ["top","bottom","measure"] vs) H:=by
 intro vs H Q E h
 obtain⟨t,rfl,t0,q⟩:=h
 refine⟨_,rfl,_,rfl,t,2,rfl,?_⟩
 refine⟨_,rfl,_,_,rfl,rfl,_,rfl,cB (by decide) ?_⟩
 have gp:0<gd t 2:=by rw[gd2];split <;> decide
 have gb:aIL t (gd t 2):=⟨gp,nb1 (by omega) (by rw[gd2];split <;> decide)⟩
 refine⟨_,rfl,_,rfl,_,_,rfl,rfl,gb,_,rfl,_,rfl,_,_,rfl,rfl,gb,show 2<=ba by decide,λz hz=>?_⟩
 have sz:=aG hz (.tup [V.int (t / gd t 2), .int (2 / gd t 2)])
 refine q z _ _ _ sz (.of aD) ?_
 rw[gd2]
 by_cases c:t % 2=0
 ·rw[if_pos c]
  exact⟨by omega,by decide,by decide,by rw[show(2:Int) / 2=1 by decide];exact Int.gcd_one_right _,by omega⟩
 ·rw[if_neg c]
  refine⟨by omega,by decide,by decide,?_,by omega⟩
  have:=@gd2 t
  rw[if_neg c] at this
  unfold gd at this
  rw[Bf,Bf]
  omega
def Te (δ:Nat->Int) (a:Nat×Int) (q:Tq):Prop:=∃u:Nat,a.2=(u:Int)/\q.1=min a.1 u/\q.2.1=max a.1 u/\Half (δ a.1 - δ u) (wt q) (wb q)
structure aJk (T:List (List Int))(n:Nat)(qs:List Tq):Prop where
 tr:Tr qs
 many:n<=qs.length+1
 srt:Srt (qs.map zU)
 ties:∀q∈qs,aBy (qs.length+1) q
 way:∀s x,s<n->x<n->wy (Ll qs) s x=at2 T s x*sc qs
 nd:(qs.map pr).Nodup
 hung:∃(V0:Nat->Prop) (r:Nat->Nat) (δ:Nat->Int) (par rk:Nat->Nat),Tv (at2 T) n V0 r δ par rk/\(∀x,V0 x↔x<qs.length+1)/\(∀x,x<n->r x=x/\δ x=hp (at2 T) x)/\(∀q∈qs,∃v,V0 v/\v≠0/\q.1=min v (par v)/\q.2.1=max v (par v))/\∀v,V0 v->v≠0->∃q∈qs,q.1=min v (par v)/\q.2.1=max v (par v)
theorem Half.two {t c e:Int}(h:Half t c e):c*2 / e=t:=by
 rw[h.m]
 exact vz _ (by have:=h.e1;omega)
theorem aKn {T:List (List Int)}{n J:Nat}{A Z:Fw}{V0:Nat->Prop}{r:Nat->Nat}{δ:Nat->Int}{par rk:Nat->Nat}{qs:List Tq}(F:Fp (at2 T) n)(n8:n<=8)(big:∀i j,i<n->j<n->at2 T i j<=1000000)
  (hs:Hs (at2 T) n n J A Z V0 r δ par rk) (hV:∀x,V0 x↔x<n\/(n<=x/\x<n+J)) (hpl:∀x,x<n->r x=x/\δ x=hp (at2 T) x) (al:A.length+1=n+J) (hJ:J<=n - 2)
  (ql:qs.length=A.length) (t1:∀q∈qs,∃a∈A,Te δ a q) (t2:∀a∈A,∃q∈qs,Te δ a q) (srt:Srt (qs.map zU)) (ndq:(qs.map pr).Nodup):aJk T n qs:=by
 have tv:=hs.tv
 have n1:=F.pos
 have N:qs.length+1=n+J:=by omega
 have vlt:∀{x},V0 x->x<n+J:=λh=>by have:=(hV _).mp h;omega
 have vof:∀{x},x<n+J->V0 x:=λh=>(hV _).mpr (by omega)
 have te:∀q∈qs,∃v,V0 v/\v≠0/\q.1=min v (par v)/\q.2.1=max v (par v)/\Half (δ v - δ (par v)) (wt q) (wb q):=λq hq=>by
  obtain⟨⟨v,u⟩,ha,un,e1,e2,e3,e4⟩:=t1 q hq
  obtain⟨h1,h2,h3⟩:=(hs.ma v u).mp ha
  have e1:u=(un:Int):=e1
  obtain rfl:un=par v:=by omega
  exact⟨v,h1,h2,e2,e3,e4⟩
 have pne:∀v,V0 v->v≠0->par v≠v:=λv h1 h2 e=>by
  have:=tv.rkd v h1 h2
  rw[e] at this
  omega
 have dle:∀v,V0 v->δ v<=2000000:=λv hv=>by
  obtain⟨a,b,c⟩:=tv.rep v hv
  have:=big 0 (r v) n1 a
  unfold hp at c
  omega
 have ties:∀q∈qs,aBy (qs.length+1) q:=λq hq=>by
  obtain⟨v,h1,h2,h3,h4,h5⟩:=te q hq
  have:=pne v h1 h2
  have:=vlt h1
  have:=vlt (tv.pin v h1 h2)
  exact⟨by omega,by omega,h5.c0,h5.e1,h5.g⟩
 have tr:Tr qs:=by
  refine { len:=by omega,ok:=λq hq=>?_,tie:=λq hq=>?_,cn:=?_ }
  ·obtain⟨v,h1,h2,h3,h4,h5⟩:=te q hq
   have a:=dle v h1
   have b:=(tv.rep _ (tv.pin v h1 h2)).2.1
   have c:=h5.m
   have d:=h5.e1
   have e:=h5.e2
   have f:=h5.c0
   have k:(δ v - δ (par v))*wb q<=2000000*2:=by
    rcases(show wb q=1\/wb q=2 by omega) with z | z <;> rw[z] <;> omega
   exact⟨f,by omega,d,by omega⟩
  ·have:=ties q hq
   exact⟨this.1,by have:=this.2.1;omega⟩
  ·have key:∀(k x:Nat),rk x<=k->V0 x->Q.Cn (qs.map pr) (aw (qs.length+1)) 0 x:=by
    intro k
    induction k with
    |zero=>
     intro x hk hx
     by_cases e:x=0
     ·rw[e];exact .refl _
     ·have:=tv.rkd x hx e
      omega
    |succ k ih=>
     intro x hk hx
     by_cases e:x=0
     ·rw[e];exact .refl _
     ·have h1:=tv.rkd x hx e
      have hu:=tv.pin x hx e
      refine .step (ih (par x) (by omega) hu) (cf.mpr (by rw[N];exact vlt hu)) (cf.mpr (by rw[N];exact vlt hx)) ?_
      obtain⟨q,hq,un,e1,e2,e3,e4⟩:=t2 (x,(par x:Int)) ((hs.ma _ _).mpr ⟨hx,e,rfl⟩)
      have e1:(par x:Int)=(un:Int):=e1
      obtain rfl:un=par x:=by omega
      have e2:q.1=min x (par x):=e2
      have e3:q.2.1=max x (par x):=e3
      show(min (par x) x,max (par x) x)∈qs.map pr
      rw[Bo,Bp]
      exact bj.mpr ⟨q,hq,by unfold pr;rw[e2,e3]⟩
   intro x hx
   exact key _ x (ay _) (vof (by omega))
 have hung2:∀v,V0 v->v≠0->∃q∈qs,q.1=min v (par v)/\q.2.1=max v (par v):=λv h1 h2=>by
  obtain⟨q,hq,un,e1,e2,e3,e4⟩:=t2 (v,(par v:Int)) ((hs.ma _ _).mpr ⟨h1,h2,rfl⟩)
  have e1:(par v:Int)=(un:Int):=e1
  obtain rfl:un=par v:=by omega
  exact⟨q,hq,e2,e3⟩
 refine⟨tr,by omega,srt,ties,λs x hs1 hx1=>?_,ndq,V0,r,δ,par,rk,tv,λx=>⟨λh=>by have:=vlt h;omega,λh=>vof (by omega)⟩,hpl,λq hq=>by obtain⟨v,h1,h2,h3,h4,_⟩:=te q hq;exact⟨v,h1,h2,h3,h4⟩,hung2⟩
 have tl:TL (qs.map λq=>(q.1,q.2.1,wt q*2 / wb q)) V0 δ par:=λe he=>by
  obtain⟨q,hq,rfl⟩:=bj.mp he
  obtain⟨v,h1,h2,h3,h4,h5⟩:=te q hq
  refine⟨v,h1,h2,?_,h5.two⟩
  show(q.1=v/\q.2.1=par v)\/(q.1=par v/\q.2.1=v)
  rw[h3,h4]
  omega
 have l1:(qs.map λq=>(q.1,q.2.1,wt q*2 / wb q)).length=qs.length:=ai ..
 have l2:(Ll qs).length=qs.length:=ai ..
 have w1:=aJX tv F tl (oV tr λq=>wt q*2 / wb q) (s:=s) (x:=x) (vof (by omega)) (by omega) (by omega)
 obtain⟨r1,d1⟩:=hpl s hs1
 obtain⟨r2,d2⟩:=hpl x hx1
 rw[yN F hs1 hx1 r1 r2 d1 d2] at w1
 have sce:scl 2 (Ll qs)=scl (sc qs) (qs.map λq=>(q.1,q.2.1,wt q*2 / wb q)):=by
  unfold scl Ll
  rw[fj,fj]
  refine fe λq hq=>?_
  obtain⟨u,hu⟩:=(zO tr.toWq).2.2 q hq
  obtain⟨v,h1,h2,h3,h4,h5⟩:=te q hq
  have hb:=h5.e1
  show(q.1,q.2.1,wt q*sc qs / wb q*2)=(q.1,q.2.1,wt q*2 / wb q*sc qs)
  rw[h5.two,hu,show wt q*(wb q*u)=wb q*(wt q*u) by rw[<- i7,uf (wt q),i7],xu _ (by omega)]
  have k:wt q*u*2=(δ v - δ (par v))*(wb q*u):=by
   rw[<- i7,<- h5.m,i7,i7,uf u 2]
  rw[k]
 have w2:=aEQ (s:=s) (x:=x) (oV tr λq=>wt q*sc qs / wb q) (oV tr λq=>wt q*2 / wb q) (l1.trans l2.symm) (by show s<=(Ll qs).length;omega) (by show x<=(Ll qs).length;omega) sce
 have w2:wy (Ll qs) s x*2=wy (qs.map λq=>(q.1,q.2.1,wt q*2 / wb q)) s x*sc qs:=w2
 rw[w1,i7] at w2
 omega
inductive aFi (K : aa) (vs : List V) (H : Hp) (Q : VK) : Prop
 |mk (v : V) (T : List (List Int)) (n : Nat) (h0 : vs = [v]) (h1 : Sh K H (gY T) v) (h2 : Quad T n) (h3 : n <= 8) (h4 : Fp (at2 T) n) (h5 : (∀i j, i < n -> j < n -> at2 T i j <= 1000000)) (h6 : ∀b qs H', Same H H' -> Dw K H' b qs -> aJk T n qs -> Q (.ref b) H') : aFi K vs H Q
def aKF (K:aa):Sp:=λvs H Q _=>aFi K vs H Q
theorem aJm:∀vs H Q E,aKF K vs H Q E->aCM K (aEA K) (aHK K) { nx:=λ_ H'=>Q .non H',rt:=Q } (start ["table","above","depths","place","ties"] vs) H:=by
 intro vs H Q E h
 obtain⟨v,T,n,rfl,hS,qT,n8,F,big,q⟩:=h
 have n1:=F.pos
 unfold aCM
 refine lN ?_
 intro a ha0
 refine lN ?_
 intro d hd0
 refine⟨aD,[(.inl 0, .int 0)],rfl,show 1<=15 by decide,?_⟩
 have e9:nB [] [((.inl 0:Key),V.int 0)]=kvI [(0,0)]:=by rfl
 rw[e9]
 have sa:=aG ha0 (.dK [])
 have had:a≠d:=aK (aD (H:=H) (a:=a) (o := .dK [])) hd0
 have hd1:H d=none:=sa.free hd0
 have s0:Same H (upd (upd (upd H a (.dK [])) d (.dK [])) d (.dK (kvI [(0,0)]))):=dQ hd1 (sa.trans (aG hd0 _))
 have ga:(upd (upd (upd H a (.dK [])) d (.dK [])) d (.dK (kvI [(0,0)]))) a=some (.dK (kvI [])):=by rw[aL had,aL had];exact aD
 have gd':(upd (upd (upd H a (.dK [])) d (.dK [])) d (.dK (kvI [(0,0)]))) d=some (.dK (kvI [(0,0)])):=aD
 generalize upd (upd (upd H a (.dK [])) d (.dK [])) d (.dK (kvI [(0,0)]))=G at s0 ga gd' ⊢
 obtain⟨ta,rs,rfl,hta,hrl,_⟩:=id hS.tab
 have rn:rs.length=n:=hrl.trans qT.len
 refine⟨_,rfl,ta,rs,rfl, .inr (s0.tup hta),1,(rs.length:Int),rfl,⟨by decide,by decide,by omega,by omega⟩,?_⟩
 refine bP (lo:=1) (n:=((rs.length:Int) - 1).toNat) (λi σ' H'=>(∃x3,σ'=[some (.ref ta),some (.ref a),some (.ref d),x3,none])/\Same H H'/\∃A Z,H' a=some (.dK (kvI A))/\H' d=some (.dK (kvI Z))/\Ht (at2 T) n (i+1) A Z) ⟨⟨_,rfl⟩,s0,[],[(0,0)],ga,gd',aHf F⟩ (λi σ1 H1 hi ⟨⟨x3,es⟩,s1,A,Z,h1,h2,ht⟩=>?_) λσ1 H1 ⟨⟨x3,es⟩,s1,A,Z,h1,h2,ht⟩=>?_
 ·subst es
  rw[show((1:Int)+(i:Int))=((i+1:Nat):Int) by omega]
  refine⟨_,rfl,_,rfl,_,rfl,_,rfl, .ref ta,a,d,T,n,i+1,A,Z,rfl,hS.same s1,qT,n8,F,by omega,by omega,had,h1,h2,ht,λA' Z' H' sy g1 g2 ht'=>⟨⟨_,rfl⟩,λb o e=>sy b o (aK e ha0) (aK e hd1) (s1 b o e),A',Z',g1,g2,ht'⟩⟩
 ·subst es
  rw[show((rs.length:Int) - 1).toNat+1=n by omega] at ht
  obtain⟨J,V0,r,δ,par,rk,hs,hV,hpl,zl,al,hJ⟩:=ht
  dsimp only
  refine lN ?_
  refine⟨_,rfl,a,kvI A,rfl,h1,λo B hB=>?_⟩
  have hda:d≠a:=had.symm
  have f0:(upd H1 a (.frz o (.dK (kvI A)))) a=some (.frz o (.dK (kvI A))):=aD
  have f1:(upd H1 a (.frz o (.dK (kvI A)))) d=some (.dK (kvI Z)):=by rw[aL hda];exact h2
  have f2:Same H (upd H1 a (.frz o (.dK (kvI A)))):=dQ ha0 s1
  generalize upd H1 a (.frz o (.dK (kvI A)))=H2 at f0 f1 f2 hB ⊢
  have al14:A.length<=13:=by omega
  refine zS (d:=a) (o:=o) (kvs:=kvI A) (λi σ' H'=>i<=A.length/\(∃x0 x1,σ'=[x0,x1,some (.ref d)])/\Same H2 H'/\∃ys qs,H' B=some (.lst ys)/\iI K H' ys (qs.map zU)/\qs.length=i/\(∀q∈qs,∃e∈A,Te δ e q)/\∀(j:Nat) e,j<i->A[j]?=some e->∃q,qs[j]?=some q/\Te δ e q) ⟨bc _,⟨_,_,rfl⟩,aG hB _,[],[],aD,⟨rfl,λi row h=>by cases h⟩,rfl,by simp,λj e hj=>by omega⟩ (λi σ' H' _ ⟨_,_,s,_⟩=>s _ _ f0) (λi k x σ3 H3 z hx hz ⟨_,⟨x0,x1,es⟩,s3,ys,qs,hB3,rq,ql,t1,t2⟩=>?_) λσ3 H3 ⟨_,⟨x0,x1,es⟩,s3,ys,qs,hB3,rq,ql,t1,t2⟩=>?_
  ·subst es
   have hi:i<A.length:=by
    have:=(au.mp hx).1
    rwa[mH] at this
   have hA:A[i]?=some A[i]:=ah hi
   have hmem:A[i]∈A:=dz hi
   generalize A[i]=ae at hA hmem
   obtain⟨v,u⟩:=ae
   obtain⟨g1,g2,g3⟩:=(hs.ma v u).mp hmem
   subst g3
   have ekx:k = .inl (v:Int)/\x = .int (par v:Int):=by
    unfold kvI at hx
    rw[az,hA] at hx
    have:=da hx
    exact⟨(congrArg ub this).symm,(congrArg Ah this).symm⟩
   obtain⟨rfl,rfl⟩:=ekx
   have sz:=aG hz (.tup [V.int (v:Int), .int (par v:Int)])
   refine⟨z,_,rfl, .of aD,rfl, .int (v:Int),[.int (par v:Int)],rfl, .int (par v:Int),[],rfl,rfl,?_⟩
   dsimp only[kV]
   generalize upd H3 z (.tup [V.int (v:Int), .int (par v:Int)])=H4 at sz ⊢
   have hd4:H4 d=some (.dK (kvI Z)):=sz _ _ (s3 _ _ f1)
   refine⟨_,rfl,_,rfl,?_⟩
   dsimp only[aR]
   refine aHS (x:=v) (y:=par v) ?_
   refine⟨_,rfl,_,rfl,?_⟩
   dsimp only[aR]
   refine aIk (x:=v) (y:=par v) ?_
   have hu:=hs.tv.pin v g1 g2
   refine⟨_,rfl,_,rfl,d,_,rfl,aAG hd4 (hs.zval g1),_,rfl,_,rfl,d,_,rfl,aAG hd4 (hs.zval hu),_,_,rfl,rfl,?_⟩
   refine⟨δ v - δ (par v),rfl,by have:=(hs.tv.A v g1 g2).1;omega,λlz c e H5 s5 hlz half=>⟨show 3<=ba by decide,λc6 hc6=>?_⟩⟩
   have s6:=aG hc6 (.tup [V.int ((min v (par v):Nat):Int), .int ((max v (par v):Nat):Int), .ref lz])
   have s46:=s5.trans s6
   have hB6:=s46 _ _ (sz _ _ hB3)
   refine⟨ys,hB6,?_,hi,⟨_,_,rfl⟩,dQ hB ((s3.trans sz).trans s46),ys++[.ref c6],qs++[(min v (par v),max v (par v),c,e)],aD,?_,by rw[ao,ql];rfl,λt ht=>?_,λj e' hj he'=>?_⟩
   ·rw[rq.1,ai,ql]
    exact cw (show i<=13 by omega) (by decide)
   ·rw[bu]
    exact aCg (wW (iH (iH rq sz) s46) λ_ _ hb=>dJ hb hB6) ⟨lz,_,_,_,_,rfl,dJ (.of aD) hB6,dJ (s6.tup hlz) hB6⟩
   ·rcases b9.mp ht with ht | ht
    ·exact t1 t ht
    ·rw[bb.mp ht]
     exact⟨_,hmem,par v,rfl,rfl,rfl,half⟩
   ·by_cases cj:j<i
    ·obtain⟨t,h3,h4⟩:=t2 j e' cj he'
     exact⟨t,by rw[cm (by omega)];exact h3,h4⟩
    ·obtain rfl:j=i:=by omega
     rw[hA] at he'
     cases he'
     exact⟨(min v (par v),max v (par v),c,e),by rw[dh (by omega),ql,qm];rfl,par v,rfl,rfl,rfl,half⟩
  ·subst es
   rw[mH] at ql t2
   refine⟨_,rfl,B,ys,qs.map zU,rfl, .inl (.of hB3),rq,by rw[ai];omega,λys' R' pm' pw py rq' sl hsl=>?_⟩
   obtain⟨qs',pq,eR⟩:=yF pm' qs rfl
   subst eR
   have ss:=aG hsl (.lst ys')
   refine⟨sl,ys',rfl, .inl ⟨.of aD,λb hb=>?_⟩⟩
   have sb:=aG hb (.tup ys')
   have ndq:(qs.map pr).Nodup:=by
    rw[ku,md]
    intro i j hi hj lt e
    rw[ai] at hi hj
    rw[jq,jq] at e
    have hA:∀k (hk:k<A.length),A[k]?=some A[k]:=λk hk=>ah hk
    obtain⟨q1,g1,u1,a1,b1,c1,_⟩:=t2 i _ (by omega) (hA i (by omega))
    obtain⟨q2,g2,u2,a2,b2,c2,_⟩:=t2 j _ (by omega) (hA j (by omega))
    rw[ah hi] at g1
    rw[ah hj] at g2
    cases g1
    cases g2
    have m1:=(hs.ma A[i].1 A[i].2).mp (dz (by omega))
    have m2:=(hs.ma A[j].1 A[j].2).mp (dz (by omega))
    have d:=(md.mp (ku.mp hs.na)) i j (by unfold ks;rw[ai];omega) (by unfold ks;rw[ai];omega) lt
    unfold ks at d
    rw[jq,jq] at d
    have e:(qs[i].1,qs[i].2.1)=(qs[j].1,qs[j].2.1):=e
    have e1:qs[i].1=qs[j].1:=(v3 e).1
    have e2:qs[i].2.1=qs[j].2.1:=(v3 e).2
    have r1:=hs.tv.rkd _ m1.1 m1.2.1
    have r2:=hs.tv.rkd _ m2.1 m2.2.1
    have p1:u1=par A[i].1:=by have:=m1.2.2;omega
    have p2:u2=par A[j].1:=by have:=m2.2.2;omega
    have k1:A[i].1=par A[j].1/\par A[i].1=A[j].1:=by rw[p1] at b1 c1;rw[p2] at b2 c2;omega
    rw[<- k1.1] at r2
    rw[k1.2] at r1
    omega
   refine q b qs' _ ((f2.trans s3).trans (ss.trans sb)) ⟨ys', .of aD,iH (iH rq' ss) sb⟩ (aKn F n8 big hs hV hpl al hJ (by rw[pq.length_eq];exact ql) (λt ht=>t1 t (pq.mem_iff.mp ht)) (λe he=>?_) pw ((pq.map pr).nodup_iff.mpr ndq))
   obtain⟨j,hj⟩:=j4.mp he
   obtain⟨t,h3,h4⟩:=t2 j e (au.mp hj).1 hj
   exact⟨t,pq.mem_iff.mpr (cb h3),h4⟩
end
theorem EmR.mono {K:aa}{vars vars':List Nat}{tb:TS}{acc:Addr}{σ:St}{H:Hp}{L:List (List Int)}(h:EmR K vars tb acc σ H L)(hs:∀k∈vars,k∈vars'):EmR K vars' tb acc σ H L:=
 λD pre R ha hR hz hd=>h D pre R ha hR hz λσ' H' pre' hl ag sx h1 h2=>hd σ' H' pre' hl (λk hk=>ag k λz=>hk (hs k z)) sx h1 h2
theorem pG {K:aa}{ta tb:TE}{σ:St}{H:Hp}{Q:VK}{x y:Int}(ha:∀Q:VK,Q (.int x) H->ta σ H Q)(hb:∀Q:VK,Q (.int y) H->tb σ H Q)(q:Q (.int (x+y)) H):tOp (bK K) ta tb σ H Q:=ha _ (hb _ q)
theorem aBd {σ:St}{H:Hp}{s n:Nat}{R:It->Hp->Prop}(hs:σ[s]?=some (some (.int (n:Int))))(hn:n<=1000)(h:R (Itr 0 n) H):cX (aC (aF s) aR) σ H R:=⟨_,hs,(n:Int),rfl,by omega,by omega,by rw[cx];exact h⟩
def Ev (T:List (List Int)) (n:Nat):Prop:=∀i j,i<n->j<n->at2 T i j=at2 T j i
def fP (T:List (List Int)) (n:Nat):List Bool:=(aw n).flatMap λi=>(aw i).flatMap λj=>[at2 T i j == at2 T j i]
theorem aGP {c:Bool}{a r:List Int}:r∈(if c=true then[a] else[])↔c=true/\r=a:=by
 cases c <;> simp
def brk (T:List (List Int)) (i j k l:Nat):Bool:=decide (at2 T i k+at2 T j l<at2 T i j+at2 T k l) && decide (at2 T i l+at2 T j k<at2 T i j+at2 T k l)
def aHs (i j k l:Nat):List Int:=[(i:Int),(j:Int),(k:Int),(l:Int)]
def fl (T:List (List Int)) (n:Nat):List (List Int):=(aw n).flatMap λi=>(aw i).flatMap λj=>(aw n).flatMap λk=>(aw (k+1)).flatMap λl=>if brk T i j k l=true then[aHs i j k l] else[]
theorem mem_fl {T:List (List Int)}{n:Nat}{r:List Int}:r∈fl T n↔∃i j k l,j<i/\i<n/\l<=k/\k<n/\brk T i j k l=true/\r=aHs i j k l:=by
 unfold fl
 simp only[jc,cf,aGP]
 constructor
 ·rintro⟨i,hi,j,hj,k,hk,l,hl,c,e⟩
  exact⟨i,j,k,l,hj,hi,by omega,hk,c,e⟩
 ·rintro⟨i,j,k,l,hj,hi,hl,hk,c,e⟩
  exact⟨i,hi,j,hj,k,hk,l,by omega,c,e⟩
theorem aHj {T:List (List Int)}{n:Nat}(h:n<=8):(fl T n).length<=4096:=by
 unfold fl
 refine cg (bY _ 512 n λk hk=>?_) (by omega)
 refine cg (bY _ 64 k λi hi=>?_) (by omega)
 refine cg (bY _ 8 n λl hl=>?_) (by omega)
 refine cg (bY _ 1 (l+1) λj hj=>?_) (by omega)
 split <;> simp
structure Et (T:List (List Int))(n:Nat):Prop where
 quad:Quad T n
 one:1<=n
 most:n<=8
 ev:Ev T n
 diag:∀i,i<n->at2 T i i=0
 low:∀i j,i<n->j<n->0<=at2 T i j
 big:∀i j,i<n->j<n->at2 T i j<=1000000
theorem fK {T:List (List Int)}{i j k l:Nat}:brk T i j k l=true↔at2 T i k+at2 T j l<at2 T i j+at2 T k l/\at2 T i l+at2 T j k<at2 T i j+at2 T k l:=by
 unfold brk
 rw[dv,decide_eq_true_iff,decide_eq_true_iff]
theorem aFr {T:List (List Int)}{n:Nat}(h:Et T n)(e:fl T n=[]):Fp (at2 T) n:=by
 have key:∀i j k l,j<i->i<n->l<=k->k<n->¬ brk T i j k l=true:=λi j k l h1 h2 h3 h4 c=>by
  have:aHs i j k l∈fl T n:=mem_fl.mpr ⟨i,j,k,l,h1,h2,h3,h4,c,rfl⟩
  rw[e] at this
  cases this
 refine⟨h.one,h.diag,h.ev,λi j k l hi hj hk hl=>?_⟩
 apply ez
 intro c
 have s1:=h.ev i j hi hj
 have s2:=h.ev k l hk hl
 have s3:=h.ev i k hi hk
 have s4:=h.ev j k hj hk
 have s5:=h.ev i l hi hl
 have s6:=h.ev j l hj hl
 have d1:=h.diag i hi
 have d2:=h.diag j hj
 have d3:=h.diag k hk
 have d4:=h.diag l hl
 have p1:=h.low i k hi hk
 by_cases eij:i=j
 ·subst eij
  by_cases ekl:k=l
  ·subst ekl
   omega
  ·by_cases lt:l<k
   ·exact key k l i i lt hk (ay _) hi (fK.mpr (by omega))
   ·exact key l k i i (by omega) hl (ay _) hi (fK.mpr (by omega))
 ·by_cases lt:j<i
  ·by_cases lk:l<=k
   ·exact key i j k l lt hi lk hk (fK.mpr (by omega))
   ·exact key i j l k lt hi (by omega) hl (fK.mpr (by omega))
  ·by_cases lk:l<=k
   ·exact key j i k l (by omega) hj lk hk (fK.mpr (by omega))
   ·exact key j i l k (by omega) hj (by omega) hl (fK.mpr (by omega))
section
variable {K:aa}
inductive aBn (K : aa) (f : List (List Int) -> Nat -> Bool) (vs : List V) (H : Hp) (Q : VK) : Prop
 |mk (v : V) (T : List (List Int)) (n : Nat) (h0 : vs = [v]) (h1 : Sh K H (gY T) v) (h2 : Quad T n) (h3 : 1 <= n) (h4 : n <= 8) (h5 : ∀H', Same H H' -> Q (.bl (f T n)) H') : aBn K f vs H Q
def aFL (K:aa) (f:List (List Int)->Nat->Bool):Sp:=λvs H Q _=>aBn K f vs H Q
theorem aGF:∀vs H Q E,aFL K (λT n=>(fP T n).all id) vs H Q E->uC K { nx:=λ_ H'=>Q .non H',rt:=Q } (start ["table","many"] vs) H:=by
 intro vs H Q E h
 obtain⟨v,T,n,rfl,hS,hq,h1,hn,q⟩:=h
 obtain⟨a,rs,rfl,ha,hl,hrow⟩:=id hS.tab
 have hl:rs.length=n:=hl.trans hq.len
 refine⟨_,rfl,a,rs,rfl, .inr ha,?_⟩
 rw[hl]
 refine⟨_,rfl,(n:Int),rfl,by omega,by omega,λacc hacc=>?_⟩
 rw[cx]
 refine cT [0,1] ((fP T n).map V.bl) hacc ?_ ?_ λσ' H' sm hl'=>⟨acc,fP T n,rfl, .inl (.of hl'),q H' sm⟩
 ·rw[ai]
  have:=bY (λi=>(aw i).flatMap λj=>[at2 T i j == at2 T j i]) 8 n λi hi=>by
   have:=bY (λj=>[at2 T i j == at2 T j i]) 1 i λ_ _=>ay _
   omega
  unfold fP
  omega
 ·refine Emits.cast (L:=(aw n).flatMap λi=>(aw i).flatMap λj=>[V.bl (at2 T i j == at2 T j i)]) ?_ (by unfold fP;simp only[kZ,b8,qi])
  refine gQ (by decide) (by show 0<3;decide) λi σ1 H1 hi l1 ag1 s1 sx1 _=>?_
  rw[fw] at s1
  refine Emits.mono (vars:=[1]) (uJ (by decide) (by rw[l1];show 1<3;decide) (by omega) (λQ hQ=>⟨_,s1,hQ H1 (Same.refl _)⟩) λj σ2 H2 hj l2 ag2 s2 sx2 _=>?_) (by simp)
  have t2:σ2[2]?=some (some (.ref a)):=(ag2 2 (by decide)).trans ((ag1 2 (by decide)).trans rfl)
  have u1:σ2[0]?=some (some (.int (i:Int))):=(ag2 0 (by decide)).trans s1
  have S2:=hS.same (bR hacc (sx1.trans sx2))
  refine eJ λQ hQ=>?_
  refine dL t2 u1 s2 S2 hq (by omega) (by omega) (dL t2 s2 u1 S2 hq (by omega) (by omega) ⟨.int _, .int _,bc _,rfl,rfl,?_⟩)
  unfold eqD
  exact hQ H2 (Same.refl _)
theorem zC {T:List (List Int)}{n:Nat}(h:Ev T n):(fP T n).all id=true:=by
 unfold fP
 rw[fR]
 refine ja.mpr λi hi=>?_
 rw[fR]
 refine ja.mpr λj hj=>?_
 have hi:=cf.mp hi
 have hj:=cf.mp hj
 rw[h i j hi (by omega)]
 simp
inductive aEC (K : aa) (vs : List V) (H : Hp) (Q : VK) : Prop
 |mk (v : V) (T : List (List Int)) (n i j k l : Nat) (h0 : vs = [v, .int (i : Int), .int (j : Int), .int (k : Int), .int (l : Int)]) (h1 : Sh K H (gY T) v) (h2 : Quad T n) (h3 : i < n) (h4 : j < n) (h5 : k < n) (h6 : l < n) (h7 : Q (.bl (brk T i j k l)) H) : aEC K vs H Q
def aLe (K:aa):Sp:=λvs H Q _=>aEC K vs H Q
theorem aKe:∀vs H Q E,aLe K vs H Q E->gI K { nx:=λ_ H'=>Q .non H',rt:=Q } (start ["table","i","j","k","l","both"] vs) H:=by
 intro vs H Q E h
 obtain⟨v,T,n,i,j,k,l,rfl,hS,qT,hi,hj,hk,hl,q⟩:=h
 unfold gI
 refine lN (pG (λQ h=>dL rfl rfl rfl hS qT hi hj h) (λQ h=>dL rfl rfl rfl hS qT hk hl h) ?_)
 refine⟨_,rfl,pG (λQ h=>dL rfl rfl rfl hS qT hi hk h) (λQ h=>dL rfl rfl rfl hS qT hj hl h) ⟨_,_,rfl,rfl,_,rfl,?_⟩⟩
 unfold brk at q
 by_cases c:at2 T i k+at2 T j l<at2 T i j+at2 T k l
 ·rw[decide_eq_true c,vb] at q
  exact cD (decide_eq_true c) ⟨_,rfl,pG (λQ h=>dL rfl rfl rfl hS qT hi hl h) (λQ h=>dL rfl rfl rfl hS qT hj hk h) ⟨_,_,rfl,rfl,q⟩⟩
 ·rw[decide_eq_false c,ua] at q
  exact cB (decide_eq_false c) q
theorem aDF {σ:St}{H:Hp}{s n:Nat}{R:It->Hp->Prop}(hs:σ[s]?=some (some (.int (n:Int))))(hn:n<=1000)(h:R (Itr 0 (n+1)) H):cX (aC (tOp (bK K) (aF s) (tC (.int 1))) aR) σ H R:=⟨_,hs,(n:Int)+1,rfl,by omega,by omega,by rw[show((n:Int)+1).toNat=n+1 by omega];exact h⟩
inductive aEy (K : aa) (vs : List V) (H : Hp) (Q : VK) : Prop
 |mk (v : V) (T : List (List Int)) (n : Nat) (h0 : vs = [v]) (h1 : Sh K H (gY T) v) (h2 : Quad T n) (h3 : n <= 8) (h4 : (fl T n = [] -> ∀H', Same H H' -> Q .non H')) (h5 : ∀b r H', Same H H' -> r ∈ fl T n -> SqT K H' b (r.map V.int) -> Q (.ref b) H') : aEy K vs H Q
def aLd (K:aa):Sp:=λvs H Q _=>aEy K vs H Q
theorem aKs:∀vs H Q E,aLd K vs H Q E->gL K (aLe K) { nx:=λ_ H'=>Q .non H',rt:=Q } (start ["table","many","found"] vs) H:=by
 intro vs H Q E h
 obtain⟨v,T,n,rfl,hS,qT,n8,q1,q2⟩:=h
 obtain⟨a,rs,rfl,ha,hl,hrow⟩:=id hS.tab
 have hl:rs.length=n:=hl.trans qT.len
 refine⟨_,rfl,a,rs,rfl, .inr ha,?_⟩
 rw[hl]
 refine⟨_,rfl,(n:Int),rfl,by omega,by omega,λF hF=>?_⟩
 rw[cx]
 refine xS (K:=K) [0,1,2,3] (fl T n) hF (cg (aHj n8) (by decide)) ?_ λσ1 H1 pre s1 h1 r1=>?_
 ·refine xW (by decide) (by show 0<6;decide) λi σ1 H1 hi l1 ag1 s1 sx1=>?_
  rw[fw] at s1
  have hl6:σ1.length=6:=l1
  refine EmR.mono (vars:=[1,2,3]) ?_ (by decide)
  refine vW (lo:=0) (n:=i) (λR h=>aBd s1 (by omega) h) (by decide) (by omega) λj σ2 H2 hj l2 ag2 s2 sx2=>?_
  rw[fw] at s2
  refine EmR.mono (vars:=[2,3]) ?_ (by decide)
  have m4:σ2[4]?=some (some (.int (n:Int))):=(ag2 4 (by decide)).trans ((ag1 4 (by decide)).trans rfl)
  refine vW (lo:=0) (n:=n) (λR h=>aBd m4 (by omega) h) (by decide) (by omega) λk σ3 H3 hk l3 ag3 s3 sx3=>?_
  rw[fw] at s3
  refine EmR.mono (vars:=[3]) ?_ (by decide)
  refine vW (lo:=0) (n:=k+1) (λR h=>aDF s3 (by omega) h) (by decide) (by omega) λl σ4 H4 hl' l4 ag4 s4 sx4=>?_
  rw[fw] at s4
  have u0:σ4[0]?=some (some (.int (i:Int))):=(ag4 0 (by decide)).trans ((ag3 0 (by decide)).trans ((ag2 0 (by decide)).trans s1))
  have u1:σ4[1]?=some (some (.int (j:Int))):=(ag4 1 (by decide)).trans ((ag3 1 (by decide)).trans s2)
  have u2:σ4[2]?=some (some (.int (k:Int))):=(ag4 2 (by decide)).trans s3
  have u5:σ4[5]?=some (some (.ref a)):=(ag4 5 (by decide)).trans ((ag3 5 (by decide)).trans ((ag2 5 (by decide)).trans ((ag1 5 (by decide)).trans rfl)))
  have hS4:=hS.same (bR hF (sx1.trans (sx2.trans (sx3.trans sx4))))
  refine aIP (c:=brk T i j k l) (λQ h=>⟨_,u5,_,u0,_,u1,_,u2,_,s4, .ref a,T,n,i,j,k,l,rfl,hS4,qT,hi,by omega,hk,by omega,_,rfl,h⟩) λ_=>?_
  exact aGg (r:=aHs i j k l) (show 4<=100 by decide) λQ h=>⟨_,u0,_,u1,_,u2,_,s4,h⟩
 ·refine⟨_,rfl,!pre.isEmpty, .inl ⟨pre, .of h1,rfl⟩,?_⟩
  cases hfl:fl T n with
  |nil=>
   have hp:pre=[]:=by
    have:=r1.1
    rw[hfl] at this
    exact List.eq_nil_of_length_eq_zero this
   subst hp
   exact cB rfl (q1 hfl _ s1)
  |cons r rest=>
   obtain⟨b,e1,e2⟩:=r1.2 0 r (by rw[hfl];rfl)
   have hp:pre≠[]:=λe=>by rw[e] at e1;cases e1
   refine cD (by cases pre with | nil=>exact absurd rfl hp | cons _ _=>rfl) ?_
   exact⟨_,rfl,ixL (j:=0) (.of h1) e1 (q2 b r _ s1 (by rw[hfl];exact b7 ..) e2)⟩
end
section
variable {K:aa}
inductive aEU (K : aa) (vs : List V) (H : Hp) (Q : VK) : Prop
 |mk (v : V) (f : Addr) (T : List (List Int)) (n i j k l : Nat) (h0 : vs = [v, .ref f]) (h1 : Sh K H (gY T) v) (h2 : Quad T n) (h3 : SqT K H f ((aHs i j k l).map V.int)) (h4 : i < n) (h5 : j < n) (h6 : k < n) (h7 : l < n) (h8 : Q (.bl (brk T i j k l)) H) : aEU K vs H Q
def aKT (K:aa):Sp:=λvs H Q _=>aEU K vs H Q
theorem aKh:∀vs H Q E,aKT K vs H Q E->eP K { nx:=λ_ H'=>Q .non H',rt:=Q } (start ["table","four","i","j","k","l","two"] vs) H:=by
 intro vs H Q E h
 obtain⟨v,f,T,n,i,j,k,l,rfl,hS,qT,hf,hi,hj,hk,hl,q⟩:=h
 refine⟨_,rfl,f,_,rfl,hf,rfl, .int (i:Int),[.int (j:Int), .int (k:Int), .int (l:Int)],rfl, .int (j:Int),[.int (k:Int), .int (l:Int)],rfl, .int (k:Int),[.int (l:Int)],rfl, .int (l:Int),[],rfl,rfl,?_⟩
 refine lN (pG (λQ h=>dL rfl rfl rfl hS qT hi hj h) (λQ h=>dL rfl rfl rfl hS qT hk hl h) ?_)
 refine⟨_,rfl,pG (λQ h=>dL rfl rfl rfl hS qT hi hk h) (λQ h=>dL rfl rfl rfl hS qT hj hl h) ⟨_,_,rfl,rfl,_,rfl,?_⟩⟩
 unfold brk at q
 by_cases c:at2 T i k+at2 T j l<at2 T i j+at2 T k l
 ·rw[decide_eq_true c,vb] at q
  exact cD (decide_eq_true c) ⟨_,rfl,pG (λQ h=>dL rfl rfl rfl hS qT hi hl h) (λQ h=>dL rfl rfl rfl hS qT hj hk h) ⟨_,_,rfl,rfl,q⟩⟩
 ·rw[decide_eq_false c,ua] at q
  exact cB (decide_eq_false c) q
def BrL (T:List (List Int)) (n:Nat):Prop:=∃i j k l,i<=j/\j<n/\k<=l/\l<n/\brk T i j k l=true
theorem aIr {T:List (List Int)}{n:Nat}(h:Et T n):BrL T n↔fl T n≠[]:=by
 constructor
 ·rintro⟨i,j,k,l,h1,h2,h3,h4,c⟩ e
  have F:=aFr h e
  have:=F.fp i j k l (by omega) h2 (by omega) h4
  have:=fK.mp c
  omega
 ·intro e
  cases hf:fl T n with
  |nil=>exact absurd hf e
  |cons r rest=>
   obtain⟨i,j,k,l,h1,h2,h3,h4,c,_⟩:=mem_fl.mp (show r∈fl T n by rw[hf];exact b7 ..)
   refine⟨j,i,l,k,by omega,h2,h3,h4,fK.mpr ?_⟩
   have c:=fK.mp c
   have s1:=h.ev i j h2 (by omega)
   have s2:=h.ev k l h4 (by omega)
   omega
inductive aEB (K : aa) (vs : List V) (H : Hp) (Q : VK) : Prop
 |mk (v : V) (T : List (List Int)) (n : Nat) (h0 : vs = [v]) (h1 : Sh K H (gY T) v) (h2 : Quad T n) (h3 : n <= 8) (h4 : ∀b H', (b = true ↔ BrL T n) -> Same H H' -> Q (.bl b) H') : aEB K vs H Q
def aKt (K:aa):Sp:=λvs H Q _=>aEB K vs H Q
theorem aKq:∀vs H Q E,aKt K vs H Q E->gJ K (aKT K) { nx:=λ_ H'=>Q .non H',rt:=Q } (start ["table","many","i","j","k","l"] vs) H:=by
 intro vs H Q E h
 obtain⟨v,T,n,rfl,hS,qT,n8,q⟩:=h
 obtain⟨ta,rs,rfl,hta,hrl,_⟩:=id hS.tab
 have rn:rs.length=n:=hrl.trans qT.len
 refine⟨_,rfl,ta,rs,rfl, .inr hta,?_⟩
 rw[rn]
 refine⟨_,rfl,(n:Int),rfl,by omega,by omega,?_⟩
 rw[cx]
 have yes:∀H' i j k l,Same H H'->i<=j->j<n->k<=l->l<n->brk T i j k l=true->Q (.bl true) H':=λH' i j k l s h1 h2 h3 h4 c=>q true H' ⟨λ_=>⟨i,j,k,l,h1,h2,h3,h4,c⟩,λ_=>rfl⟩ s
 refine bP (lo:=0) (n:=n) (λi σ' H'=>(∃x2 x3 x4 x5,σ'=[some (.ref ta),some (.int (n:Int)),x2,x3,x4,x5])/\Same H H'/\∀i' j k l,i'<i->i'<=j->j<n->k<=l->l<n->¬ brk T i' j k l=true) ⟨⟨_,_,_,_,rfl⟩,Same.refl _,λi' j k l h=>by omega⟩ (λi σ1 H1 hi ⟨⟨x2,x3,x4,x5,es⟩,s1,n1⟩=>?_) λσ1 H1 ⟨⟨x2,x3,x4,x5,es⟩,s1,n1⟩=>?_
 ·subst es
  rw[fw]
  refine⟨_,rfl,_,rfl,(i:Int),(n:Int),rfl,⟨by omega,by omega,by omega,by omega⟩,?_⟩
  rw[show((n:Int) - (i:Int)).toNat=n - i by omega]
  refine bP (lo:=(i:Int)) (n:=n - i) (λj σ' H'=>(∃x3 x4 x5,σ'=[some (.ref ta),some (.int (n:Int)),some (.int (i:Int)),x3,x4,x5])/\Same H H'/\∀j' k l,i<=j'->j'<i+j->k<=l->l<n->¬ brk T i j' k l=true) ⟨⟨_,_,_,rfl⟩,s1,λj' k l h1 h2=>by omega⟩ (λj σ2 H2 hj ⟨⟨x3,x4,x5,es⟩,s2,n2⟩=>?_) λσ2 H2 ⟨⟨x3,x4,x5,es⟩,s2,n2⟩=>?_
  ·subst es
   rw[show((i:Int)+(j:Int))=((i+j:Nat):Int) by omega]
   refine⟨_,rfl,(n:Int),rfl,by omega,by omega,?_⟩
   rw[cx]
   refine bP (lo:=0) (n:=n) (λk σ' H'=>(∃x4 x5,σ'=[some (.ref ta),some (.int (n:Int)),some (.int (i:Int)),some (.int ((i+j:Nat):Int)),x4,x5])/\Same H H'/\∀k' l,k'<k->k'<=l->l<n->¬ brk T i (i+j) k' l=true) ⟨⟨_,_,rfl⟩,s2,λk' l h=>by omega⟩ (λk σ3 H3 hk ⟨⟨x4,x5,es⟩,s3,n3⟩=>?_) λσ3 H3 ⟨⟨x4,x5,es⟩,s3,n3⟩=>?_
   ·subst es
    rw[fw]
    refine⟨_,rfl,_,rfl,(k:Int),(n:Int),rfl,⟨by omega,by omega,by omega,by omega⟩,?_⟩
    rw[show((n:Int) - (k:Int)).toNat=n - k by omega]
    refine bP (lo:=(k:Int)) (n:=n - k) (λl σ' H'=>(∃x5,σ'=[some (.ref ta),some (.int (n:Int)),some (.int (i:Int)),some (.int ((i+j:Nat):Int)),some (.int (k:Int)),x5])/\Same H H'/\∀l',k<=l'->l'<k+l->¬ brk T i (i+j) k l'=true) ⟨⟨_,rfl⟩,s3,λl' h1 h2=>by omega⟩ (λl σ4 H4 hl ⟨⟨x5,es⟩,s4,n4⟩=>?_) λσ4 H4 ⟨⟨x5,es⟩,s4,n4⟩=>?_
    ·subst es
     rw[show((k:Int)+(l:Int))=((k+l:Nat):Int) by omega]
     refine⟨_,rfl,_,rfl,_,rfl,_,rfl,_,rfl,show 4<=ba by decide,λz hz=>?_⟩
     have sz:=aG hz (.tup [V.int (i:Int), .int ((i+j:Nat):Int), .int (k:Int), .int ((k+l:Nat):Int)])
     have s5:=s4.trans sz
     refine⟨.ref ta,z,T,n,i,i+j,k,k+l,rfl,hS.same s5,qT, .of aD,by omega,by omega,by omega,by omega,_,rfl,?_⟩
     cases c:brk T i (i+j) k (k+l) with
     |true=>exact cD rfl (yes _ i (i+j) k (k+l) s5 (by omega) (by omega) (by omega) (by omega) c)
     |false=>
      refine cB rfl ⟨⟨_,rfl⟩,s5,λl' h1 h2=>?_⟩
      by_cases e:l'<k+l
      ·exact n4 l' h1 e
      ·obtain rfl:l'=k+l:=by omega
       rw[c];exact bh
    ·subst es
     refine⟨⟨_,_,rfl⟩,s4,λk' l h1 h2 h3=>?_⟩
     by_cases e:k'<k
     ·exact n3 k' l e h2 h3
     ·obtain rfl:k'=k:=by omega
      exact n4 l h2 (by omega)
   ·subst es
    refine⟨⟨_,_,_,rfl⟩,s3,λj' k l h1 h2 h3 h4=>?_⟩
    by_cases e:j'<i+j
    ·exact n2 j' k l h1 e h3 h4
    ·obtain rfl:j'=i+j:=by omega
     exact n3 k l (by omega) h3 h4
  ·subst es
   refine⟨⟨_,_,_,_,rfl⟩,s2,λi' j k l h1 h2 h3 h4 h5=>?_⟩
   by_cases e:i'<i
   ·exact n1 i' j k l e h2 h3 h4 h5
   ·obtain rfl:i'=i:=by omega
    exact n2 j k l h2 (by omega) h4 h5
 ·subst es
  exact q false H1 ⟨(λz=>by cases z),λ⟨i,j,k,l,h1,h2,h3,h4,c⟩=>absurd c (n1 i j k l (by omega) h1 h2 h3 h4)⟩ s1
end
section
variable {K:aa}
end
inductive Wk (L:List Ed) (s:Nat):Nat->Int->List Nat->Prop
 |nil:Wk L s s 0 [s]
 |snoc {x y k:Nat}{d:Int}{l:List Nat}{e:Ed}:Wk L s x d l->y∉l->L[k]?=some e->Jo e x y->Wk L s y (d+e.2.2) (l++[y])
section
variable {L:List Ed}{s:Nat}{f:List (Nat×Int)}{m:List (Nat×Nat)}
theorem aKo (g:Gr L s f m):∀p∈f,∃l,Wk L s p.1 p.2 l/\∀v∈l,v∈vs f:=by
 induction g with
 |one=>exact λp hp=>by rw[bb.mp hp];exact⟨[s], .nil,λv hv=>by simpa[vs] using hv⟩
 | @add f m x y k d e h0 hx hy he hj ih=>
  intro p hp
  rw[jP]
  rcases b9.mp hp with hp | hp
  ·obtain⟨l,h1,h2⟩:=ih p hp
   exact⟨l,h1,λv hv=>ck _ (h2 v hv)⟩
  ·rw[bb.mp hp]
   obtain⟨l,h1,h2⟩:=ih _ hx
   refine⟨l++[y], .snoc h1 (λz=>hy (h2 y z)) he hj,λv hv=>?_⟩
   rcases b9.mp hv with hv | hv
   ·exact ck _ (h2 v hv)
   ·exact dk _ hv
theorem Wk.cons {a b t k:Nat}{d:Int}{l:List Nat}{e:Ed}(h:Wk L a b d l)(ht:t∉l)(he:L[k]?=some e)(hj:Jo e t a):Wk L t b (e.2.2+d) (t :: l):=by
 induction h with
 |nil=>
  have:Wk L t a (0+e.2.2) ([t]++[a]) := .snoc .nil (λz=>ht (by rw[bb.mp z];simp)) he hj
  rw[fw] at this
  rw[Int.add_zero]
  exact this
 | @snoc x y k' d l e' h0 hy he' hj' ih=>
  have h1:=ih (λz=>ht (ck _ z))
  have:Wk L t y (e.2.2+d+e'.2.2) ((t :: l)++[y]) := .snoc h1 (λz=>by
   rcases b6.mp z with z | z
   ·exact ht (by rw[z];simp)
   ·exact hy z) he' hj'
  rw[Int.add_assoc] at this
  exact this
theorem aGJ {e:Ed}{x y:Nat}(h:Jo e x y):Jo e y x:=by
 unfold Jo at h ⊢
 omega
theorem Wk.rev {x:Nat}{d:Int}{l:List Nat}(h:Wk L s x d l):Wk L x s d l.reverse:=by
 induction h with
 |nil=>exact .nil
 | @snoc x y k d l e h0 hy he hj ih=>
  have:=ih.cons (t:=y) (λz=>hy (yy.mp z)) he (aGJ hj)
  rw[Int.add_comm] at this
  rw[AO]
  exact this
theorem Wk.gr {x:Nat}{d:Int}{l:List Nat}(h:Wk L s x d l):∃f m,Gr L s f m/\(x,d)∈f/\vs f=l:=by
 induction h with
 |nil=>exact⟨_,_, .one,by simp,rfl⟩
 | @snoc x y k d l e h0 hy he hj ih=>
  obtain⟨f,m,g,h1,h2⟩:=ih
  exact⟨_,_,g.add h1 (by rw[h2];exact hy) he hj,by simp,by rw[jP,h2]⟩
theorem qR (t:Tre L){x:Nat}{d:Int}(ls:s<=L.length)(g:Gr L s f m)(h:(x,d)∈f):wy L s x=d:=by
 obtain⟨f',m',g',l'⟩:=kO t ls
 exact(aAp g' l' ((aBM g g' l').1 _ h)).symm
theorem aGE (t:Tre L)(ls:s<=L.length):wy L s s=0:=qR t ls .one (by simp)
theorem aIA (t:Tre L){x:Nat}(ls:s<=L.length)(lx:x<=L.length):wy L s x=wy L x s:=by
 obtain⟨f,m,g,l⟩:=kO t ls
 obtain⟨⟨x1,d⟩,hd,ex⟩:=bj.mp (g.has t ls l (x:=x) (by omega))
 have ex:x1=x:=ex
 subst ex
 obtain⟨lw,h1,_⟩:=aKo g _ hd
 obtain⟨f',m',g',h2,_⟩:=h1.rev.gr
 rw[qR t ls g hd,qR t lx g' h2]
theorem aHm {o:Nat->Int}{B:Int}(ho:∀x,o x=0\/o x=1)(hB:∀e∈L,0<=e.2.2/\e.2.2<=B/\e.2.2 % 2=if o e.1=o e.2.1 then 0 else 1)(g:Gr L s f m):∀p∈f,0<=p.2/\p.2<=B*(m.length:Int)/\p.2 % 2=if o s=o p.1 then 0 else 1:=by
 induction g with
 |one=>exact λp hp=>by rw[bb.mp hp];exact⟨nc _,by simp,by simp⟩
 | @add f m x y k d e h0 hx hy he hj ih=>
  intro p hp
  have b0:0<=B:=by
   have:=hB e (cb he)
   omega
  have e1:B*(((m++[(y,k)]).length:Nat):Int)=B*(m.length:Int)+B:=by
   rw[ao,oo,Ad,Int.mul_add]
   simp
  rcases b9.mp hp with hp | hp
  ·obtain⟨a,b,c⟩:=ih p hp
   exact⟨a,by rw[e1];omega,c⟩
  ·rw[bb.mp hp]
   obtain⟨a,b,c⟩:=ih _ hx
   obtain⟨a',b',c'⟩:=hB e (cb he)
   have a:0<=d:=a
   have b:d<=B*(m.length:Int):=b
   have c:d % 2=if o s=o x then 0 else 1:=c
   refine⟨by show 0<=d+e.2.2;omega,by rw[e1];show d+e.2.2<=_;omega,?_⟩
   show(d+e.2.2) % 2=if o s=o y then 0 else 1
   have h1:=ho s
   have h2:=ho x
   have h3:=ho y
   have c2:e.2.2 % 2=if o x=o y then 0 else 1:=by
    rcases hj with⟨z1,z2⟩ | ⟨z1,z2⟩
    ·rw[c',z1,z2]
    ·rw[c',z1,z2]
     by_cases q:o y=o x
     ·rw[if_pos q,if_pos q.symm]
     ·rw[if_neg q,if_neg (λz=>q z.symm)]
   rcases h1 with h1 | h1 <;> rcases h2 with h2 | h2 <;> rcases h3 with h3 | h3 <;> simp[h1,h2,h3] at c c2 ⊢ <;> omega
end
theorem aDH {qs:List Tq}{n:Nat}{hs:List Int}(tr:Tr qs)(n1:1<=n)(n8:n<=8)(hn:n<=qs.length+1)(o0:∀x,x<n->hs.getD x 0=0)(o1:∀x,hs.getD x 0=0\/hs.getD x 0=1)(hv:∀q∈qs,Hv hs q):¬ aKm qs n/\Et (tbL qs n) n:=by
 obtain⟨c0,_,_⟩:=zO tr.toWq
 have l13:=tr.len
 have l1:(qs.map λq=>(q.1,q.2.1,wt q*2 / wb q)).length=qs.length:=ai ..
 have l2:(Ll qs).length=qs.length:=ai ..
 have hw:∀q∈qs,∃tw:Nat,tw<=140001/\wt q*2=(tw:Int)*wb q/\wt q*2 / wb q=(tw:Int)/\(tw % 2=if hs.getD q.1 0=hs.getD q.2.1 0 then 0 else 1):=λq hq=>by
  obtain⟨tw,h1,h2,h3⟩:=hv q hq
  have:=(tr.ok q hq).2.2.1
  exact⟨tw,h1,h2,by rw[h2];exact vz _ (by omega),h3⟩
 have t1:=oV tr λq=>wt q*2 / wb q
 have t2:Tre (Ll qs):=oV tr _
 have B:∀e∈qs.map (λq=>(q.1,q.2.1,wt q*2 / wb q)),0<=e.2.2/\e.2.2<=140001/\e.2.2 % 2=if hs.getD e.1 0=hs.getD e.2.1 0 then 0 else 1:=λe he=>by
  obtain⟨q,hq,rfl⟩:=bj.mp he
  obtain⟨tw,h1,h2,h3,h4⟩:=hw q hq
  show 0<=wt q*2 / wb q/\wt q*2 / wb q<=140001/\(wt q*2 / wb q) % 2=_
  rw[h3]
  refine⟨by omega,by omega,?_⟩
  show(tw:Int) % 2=if hs.getD q.1 0=hs.getD q.2.1 0 then 0 else 1
  by_cases z:hs.getD q.1 0=hs.getD q.2.1 0
  ·rw[if_pos z] at h4 ⊢;omega
  ·rw[if_neg z] at h4 ⊢;omega
 have sce:scl 2 (Ll qs)=scl (sc qs) (qs.map λq=>(q.1,q.2.1,wt q*2 / wb q)):=by
  unfold scl Ll
  rw[fj,fj]
  refine fe λq hq=>?_
  obtain⟨u,hu⟩:=(zO tr.toWq).2.2 q hq
  obtain⟨tw,h1,h2,h3,h4⟩:=hw q hq
  have hb:=(tr.ok q hq).2.2.1
  show(q.1,q.2.1,wt q*sc qs / wb q*2)=(q.1,q.2.1,wt q*2 / wb q*sc qs)
  rw[h3,hu,show wt q*(wb q*u)=wb q*(wt q*u) by rw[<- i7,uf (wt q),i7],xu _ (by omega)]
  have k:wt q*u*2=(tw:Int)*(wb q*u):=by
   rw[<- i7,<- h2,i7,i7,uf u 2]
  rw[k]
 have key:∀s x,s<n->x<n->∃u:Int,wy (Ll qs) s x=u*sc qs/\0<=u/\u<=1000000:=λs x hs1 hx1=>by
  have w2:=aEQ (s:=s) (x:=x) t2 t1 (l1.trans l2.symm) (by omega) (by omega) sce
  obtain⟨f,m,g,l⟩:=kO t1 (s:=s) (by omega)
  obtain⟨⟨x1,d⟩,hd,ex⟩:=bj.mp (g.has t1 (by omega) l (x:=x) (by omega))
  have ex:x1=x:=ex
  subst ex
  rw[qR t1 (by omega) g hd] at w2
  obtain⟨a,b,c⟩:=aHm o1 B g _ hd
  have a:0<=d:=a
  have b:d<=140001*(m.length:Int):=b
  have c:d % 2=if hs.getD s 0=hs.getD x1 0 then 0 else 1:=c
  rw[o0 s hs1,o0 x1 hx1,if_pos rfl] at c
  have gl:=g.len
  refine⟨d / 2,?_,by omega,by omega⟩
  have e:d=d / 2*2:=by omega
  have:wy (Ll qs) s x1*2=(d / 2*sc qs)*2:=by
   rw[w2]
   conv=>lhs;rw[e]
   rw[i7,i7,uf 2 (sc qs)]
  omega
 have at3:∀s x,s<n->x<n->at2 (tbL qs n) s x=wy (Ll qs) s x / sc qs:=λs x h1 h2=>by
  unfold at2 tbL aEI
  have e1:((aw n).map λs=>(aw n).map λx=>wy (Ll qs) s x / sc qs).getD s []=(aw n).map λx=>wy (Ll qs) s x / sc qs:=by
   rw[aj,az,vy h1]
   rfl
  rw[e1,aj,az,vy h2]
  rfl
 have val:∀s x,s<n->x<n->0<=at2 (tbL qs n) s x/\at2 (tbL qs n) s x<=1000000:=λs x h1 h2=>by
  obtain⟨u,e,a,b⟩:=key s x h1 h2
  rw[at3 s x h1 h2,e,vz _ (by omega)]
  exact⟨a,b⟩
 refine⟨?_,⟨?_,n1,n8,λi j hi hj=>?_,λi hi=>?_,λi j hi hj=>(val i j hi hj).1,λi j hi hj=>(val i j hi hj).2⟩⟩
 ·rintro⟨s,x,h1,h2,b⟩
  obtain⟨u,e,_,hu⟩:=key s x h1 h2
  rw[e] at b
  rcases b with b | b
  ·exact b (Int.mul_emod_left _ _)
  ·have:=Int.lt_of_mul_lt_mul_right b (by omega)
   omega
 ·constructor
  ·unfold tbL;rw[ai,cz]
  ·intro r hr
   obtain⟨s,_,rfl⟩:=bj.mp hr
   unfold aEI;rw[ai,cz]
 ·rw[at3 i j hi hj,at3 j i hj hi,aIA t2 (by omega) (by omega)]
 ·rw[at3 i i hi hi,aGE t2 (by omega)]
  exact Int.zero_ediv _
def Bnd (M:List (List Int)) (n:Nat):Prop:=∀i j,i<n->j<n->0<=at2 M i j/\at2 M i j<=1000000/\at2 M i i=0
theorem aFs {M:List (List Int)}{n i j:Nat}{v:Int}(b:Bnd M n)(q:Quad M n)(hi:i<n)(hj:j<n)(h0:0<=v)(h1:v<=1000000)(hne:i≠j):Bnd (vD M i j v) n:=by
 intro a c ha hc
 rw[eD q hi hj,eD q hi hj]
 have:=b a c ha hc
 refine⟨?_,?_,?_⟩
 ·split <;> omega
 ·split <;> omega
 ·rw[if_neg (by rintro⟨rfl,rfl⟩;exact hne rfl)];exact this.2.2
theorem xN {n a b:Nat}:at2 (bp n (bp n 0)) a b=0:=by
 unfold at2
 have:(bp n (bp n (0:Int))).getD a []=[]\/(bp n (bp n (0:Int))).getD a []=bp n 0:=by
  rw[aj,my]
  split
  ·exact .inr rfl
  ·exact .inl rfl
 rcases this with e | e
 ·rw[e];rfl
 ·rw[e,aj,my]
  split <;> rfl
structure Mid (G:Hp)(p l F:Addr)(ls:List Addr)(ns:List Int)(n kb:Nat)(P:List (List Int)->Prop)(H':Hp):Prop where
 ex:∃(M:List (List Int)) (k:Nat) (z:Int),Quad M n/\Bnd M n/\Mat H' F ls M/\PenAt H' p l ns k z/\k<=kb/\SameX p G H'/\P M
structure Old (G:Hp)(p l F:Addr)(ls:List Addr):Prop where
 p:∃o,G p=some o
 l:∃o,G l=some o
 F:G F=none
 ls:∀x∈ls,G x=none
section
variable {K:aa}{G:Hp}{p l F:Addr}{ls:List Addr}{ns:List Int}{n kb:Nat}{P:List (List Int)->Prop}{H4:Hp}
theorem Mid.le {kc:Nat}{P':List (List Int)->Prop}(h:kb<=kc)(hP:∀M,Quad M n->P M->P' M)(m:Mid G p l F ls ns n kb P H4):Mid G p l F ls ns n kc P' H4:=by
 obtain⟨M,k,z,a,b,c,d,e,f,g⟩:=m.ex
 exact⟨M,k,z,a,b,c,d,by omega,f,hP M a g⟩
theorem wG {σ:St}{t si sj i j:Nat}{v:Int}{N:St->Hp->Prop}(o:Old G p l F ls)(m:Mid G p l F ls ns n kb P H4)(ht:σ[t]?=some (some (.ref F)))(hsi:σ[si]?=some (some (.int (i:Int))))(hsj:σ[sj]?=some (some (.int (j:Int))))(hi:i<n)(hj:j<n)(hne:i≠j)(h0:0<=v)(h1:v<=1000000)
  (q:∀H5,Mid G p l F ls ns n kb (λM'=>∃M,P M/\Quad M n/\M'=vD M i j v) H5->N σ H5):sF (tOp (bO K) (aF t) (aF si)) (aF sj) fY (.int v) σ H4 N:=by
 obtain⟨M,k,z,qM,bM,mM,hP,hk,sx,pM⟩:=m.ex
 refine rC mM qM ht hsi hsj hi hj λl' H5 hl' e5 m5=>q H5 ⟨_,k,z,gG qM hi,aFs bM qM hi hj h0 h1 hne,m5,?_,hk,λb u hb e=>?_,M,pM,qM,rfl⟩
 ·obtain⟨op,hop⟩:=o.p
  obtain⟨ol,hol⟩:=o.l
  have n1:p≠l':=aK hop (o.ls l' hl')
  have n2:l≠l':=aK hol (o.ls l' hl')
  rw[e5]
  exact⟨by rw[aL n1];exact hP.1,by rw[aL n2];exact hP.2.1,hP.2.2⟩
 ·rw[e5,aL (aK e (o.ls l' hl'))]
  exact sx _ _ hb e
theorem aIw {σ:St}{t si sj i j:Nat}{Q:VK}(m:Mid G p l F ls ns n kb P H4)(ht:σ[t]?=some (some (.ref F)))(hsi:σ[si]?=some (some (.int (i:Int))))(hsj:σ[sj]?=some (some (.int (j:Int))))(hi:i<n)(hj:j<n)
  (q:∀v:Int,0<=v->v<=1000000->Mid G p l F ls ns n kb (λM=>P M/\v=at2 M i j) H4->Q (.int v) H4):tOp (bO K) (tOp (bO K) (aF t) (aF si)) (aF sj) σ H4 Q:=by
 obtain⟨M,k,z,qM,bM,mM,hP,hk,sx,pM⟩:=m.ex
 have:=bM i j hi hj
 exact pI mM qM ht hsi hsj hi hj (q _ this.1 this.2.1 ⟨M,k,z,qM,bM,mM,hP,hk,sx,pM,rfl⟩)
theorem yV {Q:VK}{σ:St}{a c t:Nat}(ha:σ[a]?=some (some (.ref p)))(hc:σ[c]?=some (some (.int (t:Int))))(o:Old G p l F ls)(m:Mid G p l F ls ns n kb P H4)(hb:kb<=100000)(h1:1<=t)(h2:t<=1000001)(q:∀(r:Nat) H5,r<t->Mid G p l F ls ns n (kb+1) P H5->Q (.int (r:Int)) H5):bI jS [] E0 (aC (aF a) (aC (aF c) aR)) σ H4 Q:=by
 obtain⟨M,k,z,qM,bM,mM,hP,hk,sx,pM⟩:=m.ex
 refine⟨_,ha,_,hc,p,l,ns,k,z,t,rfl,hP,by omega,h1,h2,λr k' z' H5 hr hk' hP' sx'=>q r H5 hr ⟨M,k',z',qM,bM,mM.keep λb u hb e=>sx' b u (λz=>?_) e,hP',by omega,sx.trans sx',pM⟩⟩
 obtain⟨op,hop⟩:=o.p
 rcases hb with rfl | hb
 ·exact aK hop o.F z.symm
 ·exact aK hop (o.ls b hb) z.symm
def SyE (ev:Bool) (n:Nat) (M:List (List Int)):Prop:=ev=true->∀a b,a<n->b<n->at2 M a b=at2 M b a
inductive xY (K : aa) (vs : List V) (H : Hp) (Q : VK) : Prop
 |mk (p l : Addr) (ns : List Int) (k : Nat) (z : Int) (n : Nat) (ev : Bool) (h0 : vs = [.ref p, .int (n : Int), .bl ev]) (h1 : PenAt H p l ns k z) (h2 : k <= 90000) (h3 : 1 <= n) (h4 : n <= 8) (h5 : ∀(T : List (List Int)) (v : V) (k' : Nat) (z' : Int) H', Quad T n -> Bnd T n -> SyE ev n T -> Sh K H' (gY T) v -> PenAt H' p l ns k' z' -> k' <= k + 200 -> SameX p H H' -> Q v H') : xY K vs H Q
def aBc (K:aa):Sp:=λvs H Q _=>xY K vs H Q
theorem PenAt.ne {H:Hp}{k:Nat}{z:Int}(h:PenAt H p l ns k z){x:Addr}(hx:H x=none):x≠p/\x≠l:=⟨λe=>(by rw[e,h.1] at hx;cases hx),λe=>(by rw[e,h.2.1] at hx;cases hx)⟩
def aHq (K:aa) (cJ:Sp):TS:=(aT (bU (tOp eG (tC (.int 999999)) (tCB vK (aC (tOp (nG K) (aF 3) (tC (.int 2))) aR))) (aI 4)) (aT (bU (cU [none,some 1] (cX (aC (aF 1) aR)) (aI 0) [] λacc=>(cP (tOp eG (rS (aC (tC (.int 0)) aR)) (aF 1)) acc)) (aI 5)) (aT (iQ (cX (aC (aF 1) aR)) (aI 6) (aT (iQ (cX (aC (aF 6) aR)) (aI 7) (aT (bU (tOp (bK K) (aF 4) (bI cJ [] E0 (aC (aF 0) (aC (aF 3) aR)))) (sF (tOp (bO K) (aF 5) (aF 6)) (aF 7) fY)) (aT (bU (tOp (bO K) (tOp (bO K) (aF 5) (aF 6)) (aF 7)) (sF (tOp (bO K) (aF 5) (aF 7)) (aF 6) fY)) (aT (gP (aEL (aJd K (aF 2))) (aT (bU (tOp (bK K) (aF 4) (bI cJ [] E0 (aC (aF 0) (aC (aF 3) aR)))) (sF (tOp (bO K) (aF 5) (aF 7)) (aF 6) fY)) aQ) aQ) aQ)))) aQ)) (aT (dG (tCB (cW K) (aC (cU [none] (mS K (aF 5)) (aI 0) [] λacc=>(cP (tCB (cW K) (aC (aF 0) aR)) acc)) aR))) aQ))))
theorem aBE {H H1:Hp}{k k1:Nat}{z1:Int}{ev:Bool}{t:Nat}{Q:VK}(hk:k<=90000)(h1:1<=n)(h8:n<=8)(hP:PenAt H1 p l ns k1 z1)(hk1:k1<=k+1)(sx1:SameX p H H1)(t1:2<=t)(t2:t<=1000001)
  (q:∀(T:List (List Int)) (v:V) (k':Nat) (z':Int) H',Quad T n->Bnd T n->SyE ev n T->Sh K H' (gY T) v->PenAt H' p l ns k' z'->k'<=k+200->SameX p H H'->Q v H') :
  aHq K jS { nx:=λ_ H'=>Q .non H',rt:=Q } [some (.ref p),some (.int (n:Int)),some (.bl ev),some (.int (t:Int)),none,none,none,none] H1:=by
 have lo:∃lo:Int,999999*(if eqD (.int (t:Int)) (.int 2) then 1 else 0)=lo/\0<=lo/\lo+t<=1000001:=by
  refine⟨_,rfl,?_⟩
  have e:eqD (.int (t:Int)) (.int 2)=decide ((t:Int)=2):=by rw[eqD];rfl
  rw[e]
  by_cases c:(t:Int)=2
  ·rw[decide_eq_true c]
   simp
   omega
  ·rw[decide_eq_false c]
   simp
   omega
 obtain⟨lo,elo,lo0,lo1⟩:=lo
 refine⟨_,rfl, .int _, .int 2,bc _,rfl,rfl, .inr ⟨_,rfl, .inl ⟨by decide,by decide⟩,?_⟩⟩
 dsimp only
 rw[elo]
 refine⟨_,rfl,(n:Int),rfl,by omega,by omega,λF hF=>?_⟩
 rw[cx]
 refine nM (vars:=[0]) (λi L H'=>∃ls:List Addr,L=ls.map V.ref/\ls.length=i/\ls.Nodup/\F∉ls/\(∀l∈ls,H' l=some (.lst (bp n (.int 0))))/\∀l∈ls,H1 l=none) (by decide) (by show 0<2;decide) ⟨[],rfl,rfl,kd,by simp,by simp,by simp⟩ hF (λi σ1 H2 L D hi l1 ag1 s1 sm1 ha1 ⟨ls,e1,e2,e3,e4,e5,e6⟩ hD=>?_) λσ1 H2 L sm1 ha1 ⟨ls,e1,e2,e3,e4,e5,e6⟩=>?_
 ·have m1:σ1[1]?=some (some (.int (n:Int))):=(ag1 1 (by decide)).trans rfl
  refine⟨by show 1<=ba;decide,λp' hp=>⟨_,m1,p',(n:Int),_,rfl,rfl,aD,by omega,by omega,?_,λp2 hp2=>?_⟩⟩
  ·rw[cx]
   exact cg (show 1*n<=9 by omega) (by decide)
  have hpF:p'≠F:=λe=>by rw[e,ha1] at hp;cases hp
  have hF2:upd H2 p' (.lst [V.int 0]) F=some (.lst L):=by rw[aL (jh hpF)];exact ha1
  have hp2F:p2≠F:=λe=>by rw[e,hF2] at hp2;cases hp2
  rw[cx,List.flatten_replicate_singleton]
  refine⟨L,by rw[aL (jh hp2F)];exact hF2,cw (show L.length<=9 by rw[e1,ai];omega) (by decide),?_⟩
  have keep:∀b o,b≠F->H2 b=some o->upd (upd (upd H2 p' (.lst [V.int 0])) p2 (.lst (bp n (V.int 0)))) F (.lst (L++[V.ref p2])) b=some o:=λb o hb e=>by
   have e':upd H2 p' (.lst [V.int 0]) b=some o:=by rw[aL (aK e hp)];exact e
   rw[aL hb,aL (aK e' hp2)];exact e'
  refine hD σ1 _ (L++[.ref p2]) l1 ag1 (λb o e=>keep b o (aK e hF) (sm1 _ _ e)) aD ⟨ls++[p2],by rw[e1,bu];rfl,by rw[ao,e2];rfl,?_,?_,?_,?_⟩
  ·refine qC e3 λhmem=>?_
   have g:=e5 p2 hmem
   have g':upd H2 p' (.lst [V.int 0]) p2=some (.lst (bp n (.int 0))):=by rw[aL (aK g hp)];exact g
   rw[g'] at hp2;cases hp2
  ·intro hmem
   rcases b9.mp hmem with y | y
   ·exact e4 y
   ·exact hp2F (bb.mp y).symm
  ·intro x hx
   rcases b9.mp hx with y | y
   ·exact keep x _ (λe=>e4 (e ▸ y)) (e5 x y)
   ·rw[bb.mp y,aL hp2F]
    exact aD
  ·intro x hx
   rcases b9.mp hx with y | y
   ·exact e6 x y
   ·rw[bb.mp y]
    exact(sm1.trans (aG hp _)).free hp2
 have mat0:Mat H2 F ls (bp n (bp n 0)):=by
  refine⟨by rw[ha1,e1],by rw[e2,oh],λi x r a b=>?_,e3,e4⟩
  have:=e5 x (cb a)
  rw[my] at b
  split at b
  ·cases b
   rw[this,List.map_replicate]
  ·cases b
 have quad0:Quad (bp n (bp n (0:Int))) n:=⟨oh,λr hr=>by rw[List.eq_of_mem_replicate hr,oh]⟩
 have old:Old H1 p l F ls:=⟨⟨_,hP.1⟩,⟨_,hP.2.1⟩,hF,e6⟩
 have mid0:Mid H1 p l F ls ns n k1 (SyE ev n) H2:=⟨_,k1,z1,quad0,λi j _ _=>by rw[xN,xN];omega,mat0,hP.x sm1,ay _,sm1.x,λ_ a b _ _=>by rw[xN,xN]⟩
 refine⟨_,rfl,(n:Int),rfl,by omega,by omega,?_⟩
 rw[cx]
 refine bP (lo:=0) (n:=n) (λi σ' H'=>∃a b,σ'=[some (.ref p),some (.int (n:Int)),some (.bl ev),some (.int (t:Int)),some (.int lo),some (.ref F),a,b]/\Mid H1 p l F ls ns n (k1+16*i) (SyE ev n) H') ⟨none,none,rfl,mid0⟩ (λi σ2 H3 hi ⟨a,b,es,mid2⟩=>?_) λσ2 H3 ⟨a,b,es,mid2⟩=>?_
 ·subst es
  rw[fw]
  refine⟨_,rfl,(i:Int),rfl,by omega,by omega,?_⟩
  rw[cx]
  refine bP (lo:=0) (n:=i) (λj σ' H'=>∃b,σ'=[some (.ref p),some (.int (n:Int)),some (.bl ev),some (.int (t:Int)),some (.int lo),some (.ref F),some (.int (i:Int)),b]/\Mid H1 p l F ls ns n (k1+16*i+2*j) (SyE ev n) H') ⟨b,rfl,mid2⟩ (λj σ3 H4 hj ⟨b3,es3,mid3⟩=>?_) λσ3 H4 ⟨b3,es3,mid3⟩=>⟨_,b3,es3,mid3.le (by omega) λ_ _ h=>h⟩
  subst es3
  rw[fw]
  refine⟨_,rfl,yV rfl rfl old mid3 (by omega) (by omega) t2 λr H5 hr m5=>?_⟩
  dsimp only[bK]
  refine wG (t:=5) (si:=6) (sj:=7) old m5 rfl rfl rfl hi (by omega) (by omega) (by omega) (by omega) λH6 m6=>?_
  refine aIw (t:=5) (si:=6) (sj:=7) m6 rfl rfl rfl hi (by omega) λv v0 v1 m6=>?_
  refine wG (t:=5) (si:=7) (sj:=6) old m6 rfl rfl rfl (by omega) hi (by omega) v0 v1 λH7 m7=>?_
  refine⟨_,rfl,_,rfl,?_⟩
  cases ev with
  |true=>
   refine aHa ⟨_,rfl,m7.le (by omega) λM qM hM _ a b ha hb=>?_⟩
   obtain⟨M1,⟨⟨M0,s0,q0,rfl⟩,ev1⟩,q1,rfl⟩:=hM
   have s0:=s0 rfl
   rw[eD q0 hi (by omega),if_pos ⟨rfl,rfl⟩] at ev1
   rw[eD q1 (by omega) hi,eD q1 (by omega) hi,eD q0 hi (by omega),eD q0 hi (by omega),s0 a b ha hb]
   by_cases c1:a=j/\b=i
   ·rw[if_pos c1,if_neg (by omega),if_pos (by omega)];exact ev1
   ·rw[if_neg c1]
    by_cases c2:b=j/\a=i
    ·rw[if_pos c2,if_pos (by omega)];exact ev1.symm
    ·rw[if_neg c2,if_neg (by omega),if_neg (by omega)]
  |false=>
   refine aHN ⟨_,rfl,yV rfl rfl old m7 (by omega) (by omega) t2 λr2 H8 hr2 m8=>?_⟩
   dsimp only[bK]
   exact wG (t:=5) (si:=7) (sj:=6) old m8 rfl rfl rfl (by omega) hi (by omega) (by omega) (by omega) λH9 m9=>⟨_,rfl,m9.le (by omega) λ_ _ _ z=>nomatch z⟩
 ·subst es
  obtain⟨M,k3,z3,qM,bM,mM,hP3,hk3,f3,pM⟩:=mid2.ex
  exact mV (t:=5) rfl mM qM (by omega) λp9 H' sm hS=>q M _ k3 z3 H' qM bM pM hS (hP3.x sm) (by omega) (sx1.trans (f3.trans sm.x))
theorem aFK:∀vs H Q E,aBc K vs H Q E->iE K jS { nx:=λ_ H'=>Q .non H',rt:=Q } (start ["pen","many","even","top","low","lines","i","j"] vs) H:=by
 intro vs H Q E h
 obtain⟨p,l,ns,k,z,n,ev,rfl,hP,hk,h1,h8,q⟩:=h
 refine⟨show 6<=ba by decide,λp0 hp0=>⟨_,rfl,p,l,ns,k,z,6,rfl,hP.x (aG hp0 _),by omega,by decide,by decide,λr k1 z1 H1 hr hk1 hP1 sx1=>?_⟩⟩
 have s0:=aG hp0 (.lst [.int 10, .int 1000001, .int 3, .int 60, .int 1001, .int 2])
 have e0:H1 p0=some (.lst [.int 10, .int 1000001, .int 3, .int 60, .int 1001, .int 2]):=sx1 _ _ (hP.ne hp0).1 aD
 have sx:=s0.x.trans sx1 (acc:=p)
 have go:∀t:Nat,2<=t->t<=1000001->_:=λt t1 t2=>aBE (K:=K) (ev:=ev) hk h1 h8 hP1 hk1 sx t1 t2 q
 rcases r with _ | _ | _ | _ | _ | _ | r
 ·exact ixL (j:=0) (.of e0) rfl (go 10 (by decide) (by decide))
 ·exact ixL (j:=1) (.of e0) rfl (go 1000001 (by decide) (by decide))
 ·exact ixL (j:=2) (.of e0) rfl (go 3 (by decide) (by decide))
 ·exact ixL (j:=3) (.of e0) rfl (go 60 (by decide) (by decide))
 ·exact ixL (j:=4) (.of e0) rfl (go 1001 (by decide) (by decide))
 ·exact ixL (j:=5) (.of e0) rfl (go 2 (by decide) (by decide))
 ·omega
end
def Sy (M:List (List Int)) (n:Nat):Prop:=∀i j,i<n->j<n->at2 M i j=at2 M j i
def aJe (M:List (List Int)) (n k:Nat):Prop:=∀i j p,i<n->j<n->p<k->at2 M i j<=at2 M i p+at2 M p j
def Flo (M:List (List Int)) (n k i0 j0:Nat) (M':List (List Int)):Prop:=∀a b,a<n->b<n->at2 M' a b=if a<i0\/(a=i0/\b<j0) then min (at2 M a b) (at2 M a k+at2 M k b) else at2 M a b
theorem aFT {M M':List (List Int)}{n k:Nat}(hk:k<n)(b:Bnd M n)(s:Sy M n)(t:aJe M n k)(f:Flo M n k n 0 M'):Bnd M' n/\Sy M' n/\aJe M' n (k+1):=by
 have g:∀i j,i<n->j<n->at2 M' i j=min (at2 M i j) (at2 M i k+at2 M k j):=λi j hi hj=>by rw[f i j hi hj,if_pos (.inl hi)]
 refine⟨λi j hi hj=>?_,λi j hi hj=>?_,λi j p hi hj hp=>?_⟩
 ·rw[g i j hi hj,g i i hi hi]
  have:=b i j hi hj
  have:=b i k hi hk
  have:=b k j hk hj
  have:=b k i hk hi
  omega
 ·rw[g i j hi hj,g j i hj hi,s i j hi hj,s i k hi hk,s k j hk hj,Int.add_comm]
 ·have hpn:p<n:=by omega
  rw[g i j hi hj,g i p hi hpn,g p j hpn hj]
  have b1:=b k p hk hpn
  have b2:=b p k hpn hk
  have b3:=b k k hk hk
  by_cases c:p=k
  ·subst c
   omega
  ·have t1:=t i j p hi hj (by omega)
   have t2:=t k j p hk hj (by omega)
   have t3:=t i k p hi hk (by omega)
   omega
theorem aCq {M M':List (List Int)}{n k i0 j0:Nat}(hk:k<n)(b:Bnd M n)(f:Flo M n k i0 j0 M'){x:Nat}(hx:x<n):at2 M' x k=at2 M x k/\at2 M' k x=at2 M k x:=by
 have:=b k k hk hk
 constructor
 ·rw[f x k hx hk]
  split
  ·omega
  ·rfl
 ·rw[f k x hk hx]
  split
  ·omega
  ·rfl
section
variable {K:aa}
inductive aCs (K : aa) (vs : List V) (H : Hp) (Q : VK) : Prop
 |mk (v : V) (M : List (List Int)) (n : Nat) (h0 : vs = [v]) (h1 : Sh K H (gY M) v) (h2 : Quad M n) (h3 : Bnd M n) (h4 : Sy M n) (h5 : 1 <= n) (h6 : n <= 8) (h7 : ∀T v H', Same H H' -> Quad T n -> Bnd T n -> Sy T n -> aJe T n n -> Sh K H' (gY T) v -> Q v H') : aCs K vs H Q
def aHg (K:aa):Sp:=λvs H Q _=>aCs K vs H Q
theorem wM:∀vs H Q E,aHg K vs H Q E->eZ K { nx:=λ_ H'=>Q .non H',rt:=Q } (start ["table","lines","k","i","j"] vs) H:=by
 intro vs H Q E h
 obtain⟨v,M0,n,rfl,hS0,q0,b0,y0,n1,n8,q⟩:=h
 obtain⟨F0,rs,rfl,hF0,hrl,hrow⟩:=id hS0.tab
 have l0:rs.length=n:=hrl.trans q0.len
 refine⟨_,rfl,F0,rfl, .inr ⟨⟨_,hF0⟩,λF hF=>?_⟩⟩
 refine aCY (vars:=[0]) (K:=K) (a:=F0) (xs:=rs) (λi L H'=>∃ls:List Addr,L=ls.map V.ref/\ls.length=i/\ls.Nodup/\F∉ls/\(∀(j:Nat) (x:Addr) (r:List Int),ls[j]?=some x->M0[j]?=some r->H' x=some (.lst (r.map V.int)))/\(∀x∈ls,∃r:List Int,H' x=some (.lst (r.map V.int)))/\∀x∈ls,H x=none) (by decide) (by show 0<1;decide) ⟨[],rfl,rfl,kd,by simp,(λ_ _ _ z=>by cases z),by simp,by simp⟩ hF hF0 (λi x σ1 H2 L D hx l1 ag1 s1 sm1 ha1 ⟨ls,e1,e2,e3,e4,e5,e55,e6⟩ hD=>?_) λσ1 H2 L sm1 ha1 ⟨ls,e1,e2,e3,e4,e5,e55,e6⟩=>?_
 ·have hi:i<rs.length:=(au.mp hx).1
  obtain⟨row,g1,g2,g3⟩:=q0.get (show i<n by omega)
  obtain⟨b,hb,hbr⟩:=hrow i row g1
  rw[hb] at hx
  obtain rfl:V.ref b=x:=da hx
  refine⟨_,s1, .inl ⟨b,row.map V.int,rfl, .inr (sm1.tup hbr),λp2 hp2=>?_⟩⟩
  have hp2F:p2≠F:=λe=>by rw[e,ha1] at hp2;cases hp2
  refine⟨L,by rw[aL (jh hp2F)];exact ha1,cw (show L.length<=9 by rw[e1,ai];omega) (by decide),?_⟩
  have keep:∀b o,b≠F->H2 b=some o->upd (upd H2 p2 (.lst (row.map V.int))) F (.lst (L++[V.ref p2])) b=some o:=λb o hb e=>by
   rw[aL hb,aL (aK e hp2)];exact e
  refine hD σ1 _ (L++[.ref p2]) l1 ag1 (λb o e=>keep b o (aK e hF) (sm1 _ _ e)) aD ⟨ls++[p2],by rw[e1,bu];rfl,by rw[ao,e2];rfl,?_,?_,?_,?_,?_⟩
  ·refine qC e3 λhmem=>?_
   obtain⟨r,g⟩:=e55 p2 hmem
   rw[g] at hp2;cases hp2
  ·intro hmem
   rcases b9.mp hmem with y | y
   ·exact e4 y
   ·exact hp2F (bb.mp y).symm
  ·intro j x r hj hr
   by_cases cj:j<ls.length
   ·rw[cm cj] at hj
    exact keep x _ (λe=>e4 (e ▸ cb hj)) (e5 j x r hj hr)
   ·have ej:j=ls.length:=by
     have:=(au.mp hj).1
     rw[ao,oo] at this
     omega
    rw[ej,dh (ay _),qm] at hj
    cases hj
    rw[ej,e2,g1] at hr
    cases hr
    rw[aL hp2F]
    exact aD
  ·intro x hx
   rcases b9.mp hx with y | y
   ·obtain⟨r,g⟩:=e55 x y
    exact⟨r,keep x _ (λe=>e4 (e ▸ y)) g⟩
   ·rw[bb.mp y]
    exact⟨row,by rw[aL hp2F];exact aD⟩
  ·intro x hx
   rcases b9.mp hx with y | y
   ·exact e6 x y
   ·rw[bb.mp y]
    exact sm1.free hp2
 have mat0:Mat H2 F ls M0:=⟨by rw[ha1,e1],by rw[e2];exact hrl,e5,e3,e4⟩
 have lls:ls.length=n:=by rw[e2];exact l0
 have lenF:∀{H' M},Mat H' F ls M->SqL K H' F (ls.map V.ref):=λm => .of m.top
 refine⟨_,rfl,F,_,rfl, .inl (lenF mat0),(n:Int),by rw[ai,lls],by omega,by omega,?_⟩
 rw[cx]
 refine bP (lo:=0) (n:=n) (λk σ' H'=>Same H H'/\∃x2 x3 x4 M,σ'=[some (.ref F0),some (.ref F),x2,x3,x4]/\Mat H' F ls M/\Quad M n/\Bnd M n/\Sy M n/\aJe M n k) ⟨sm1,_,_,_,M0,rfl,mat0,q0,b0,y0,λ_ _ _ _ _ h=>absurd h (zo _)⟩ (λk σ2 H3 hk ⟨s3,x2,x3,x4,M,es,mM,qM,bM,yM,tM⟩=>?_) λσ2 H3 ⟨s3,x2,x3,x4,M,es,mM,qM,bM,yM,tM⟩=>?_
 ·subst es
  rw[fw]
  refine⟨_,rfl,F,_,rfl, .inl (lenF mM),(n:Int),by rw[ai,lls],by omega,by omega,?_⟩
  rw[cx]
  refine bP (lo:=0) (n:=n) (λi σ' H'=>Same H H'/\∃x3 x4 M',σ'=[some (.ref F0),some (.ref F),some (.int (k:Int)),x3,x4]/\Mat H' F ls M'/\Quad M' n/\Flo M n k i 0 M') ⟨s3,_,_,M,rfl,mM,qM,λa b _ _=>by rw[if_neg (by omega)]⟩ (λi σ3 H4 hi ⟨s4,x3,x4,M4,es,m4,q4,f4⟩=>?_) λσ3 H4 ⟨s4,x3,x4,M4,es,m4,q4,f4⟩=>?_
  ·subst es
   rw[fw]
   refine⟨_,rfl,F,_,rfl, .inl (lenF m4),(n:Int),by rw[ai,lls],by omega,by omega,?_⟩
   rw[cx]
   refine bP (lo:=0) (n:=n) (λj σ' H'=>Same H H'/\∃x4 M',σ'=[some (.ref F0),some (.ref F),some (.int (k:Int)),some (.int (i:Int)),x4]/\Mat H' F ls M'/\Quad M' n/\Flo M n k i j M') ⟨s4,_,M4,rfl,m4,q4,f4⟩ (λj σ4 H5 hj ⟨s5,x4,M5,es,m5,q5,f5⟩=>?_) λσ4 H5 ⟨s5,x4,M5,es,m5,q5,f5⟩=>?_
   ·subst es
    rw[fw]
    refine pI (t:=1) (si:=3) (sj:=4) m5 q5 rfl rfl rfl hi hj ?_
    refine pI (t:=1) (si:=3) (sj:=2) m5 q5 rfl rfl rfl hi hk (pI (t:=1) (si:=2) (sj:=4) m5 q5 rfl rfl rfl hk hj ?_)
    dsimp only[bK]
    refine⟨_,_,rfl,?_⟩
    have ik:=(aCq hk bM f5 hi).1
    have kj:=(aCq hk bM f5 hj).2
    refine rC (t:=1) (si:=3) (sj:=4) m5 q5 rfl rfl rfl hi hj λl' H6 hl' e6' m6=>⟨?_,_,_,rfl,m6,gG q5 hi,λa b ha hb=>?_⟩
    ·intro c o e
     rw[e6',aL (aK e (e6 l' hl'))]
     exact s5 _ _ e
    ·rw[eD q5 hi hj]
     have hij:at2 M5 i j=at2 M i j:=by rw[f5 i j hi hj,if_neg (by omega)]
     by_cases ce:a=i/\b=j
     ·rw[if_pos ce,hij,ik,kj]
      obtain⟨rfl,rfl⟩:=ce
      rw[if_pos (show a<a\/(a=a/\b<b+1) by omega)]
      split <;> omega
     ·rw[if_neg ce,f5 a b ha hb]
      by_cases cl:a<i\/(a=i/\b<j)
      ·rw[if_pos cl,if_pos (by omega)]
      ·rw[if_neg cl,if_neg (by omega)]
   ·subst es
    refine⟨s5,_,_,M5,rfl,m5,q5,λa b ha hb=>?_⟩
    rw[f5 a b ha hb]
    by_cases cl:a<i+1
    ·rw[if_pos (by omega),if_pos (.inl cl)]
    ·rw[if_neg (by omega),if_neg (by omega)]
  ·subst es
   obtain⟨b5,y5,t5⟩:=aFT hk bM yM tM f4
   exact⟨s4,_,_,_,M4,rfl,m4,q4,b5,y5,t5⟩
 ·subst es
  exact mV (t:=1) rfl mM qM (by omega) λp9 H' sm hS=>q M _ H' (s3.trans sm) qM bM yM tM hS
end
section
variable {K:aa}
theorem aLr {σ:St}{H:Hp}{t:Nat}{v:V}{M0:List (List Int)}{n:Nat}{Q:VK}(ht:σ[t]?=some (some v))(hS0:Sh K H (gY M0) v)(q0:Quad M0 n)(n8:n<=8)(q:∀F ls H',Same H H'->Mat H' F ls M0->H F=none->(∀x∈ls,H x=none)->Q (.ref F) H') :
  cU [none] (mS K (aF t)) (aI 0) [] (λacc=>(cP (tCB (tK K) (aC (aF 0) aR)) acc)) σ H Q:=by
 obtain⟨F0,rs,rfl,hF0,hrl,hrow⟩:=id hS0.tab
 have l0:rs.length=n:=hrl.trans q0.len
 refine⟨_,ht,F0,rfl, .inr ⟨⟨_,hF0⟩,λF hF=>?_⟩⟩
 refine aCY (vars:=[0]) (K:=K) (a:=F0) (xs:=rs) (λi L H'=>∃ls:List Addr,L=ls.map V.ref/\ls.length=i/\ls.Nodup/\F∉ls/\(∀(j:Nat) (x:Addr) (r:List Int),ls[j]?=some x->M0[j]?=some r->H' x=some (.lst (r.map V.int)))/\(∀x∈ls,∃r:List Int,H' x=some (.lst (r.map V.int)))/\∀x∈ls,H x=none) (by decide) (by show 0<1;decide) ⟨[],rfl,rfl,kd,by simp,(λ_ _ _ z=>by cases z),by simp,by simp⟩ hF hF0 (λi x σ1 H2 L D hx l1 ag1 s1 sm1 ha1 ⟨ls,e1,e2,e3,e4,e5,e55,e6⟩ hD=>?_) λσ1 H2 L sm1 ha1 ⟨ls,e1,e2,e3,e4,e5,e55,e6⟩=>?_
 ·have hi:i<rs.length:=(au.mp hx).1
  obtain⟨row,g1,g2,g3⟩:=q0.get (show i<n by omega)
  obtain⟨b,hb,hbr⟩:=hrow i row g1
  rw[hb] at hx
  obtain rfl:V.ref b=x:=da hx
  refine⟨_,s1, .inl ⟨b,row.map V.int,rfl, .inr (sm1.tup hbr),λp2 hp2=>?_⟩⟩
  have hp2F:p2≠F:=λe=>by rw[e,ha1] at hp2;cases hp2
  refine⟨L,by rw[aL (jh hp2F)];exact ha1,cw (show L.length<=9 by rw[e1,ai];omega) (by decide),?_⟩
  have keep:∀b o,b≠F->H2 b=some o->upd (upd H2 p2 (.lst (row.map V.int))) F (.lst (L++[V.ref p2])) b=some o:=λb o hb e=>by
   rw[aL hb,aL (aK e hp2)];exact e
  refine hD σ1 _ (L++[.ref p2]) l1 ag1 (λb o e=>keep b o (aK e hF) (sm1 _ _ e)) aD ⟨ls++[p2],by rw[e1,bu];rfl,by rw[ao,e2];rfl,?_,?_,?_,?_,?_⟩
  ·refine qC e3 λhmem=>?_
   obtain⟨r,g⟩:=e55 p2 hmem
   rw[g] at hp2;cases hp2
  ·intro hmem
   rcases b9.mp hmem with y | y
   ·exact e4 y
   ·exact hp2F (bb.mp y).symm
  ·intro j x r hj hr
   by_cases cj:j<ls.length
   ·rw[cm cj] at hj
    exact keep x _ (λe=>e4 (e ▸ cb hj)) (e5 j x r hj hr)
   ·have ej:j=ls.length:=by
     have:=(au.mp hj).1
     rw[ao,oo] at this
     omega
    rw[ej,dh (ay _),qm] at hj
    cases hj
    rw[ej,e2,g1] at hr
    cases hr
    rw[aL hp2F]
    exact aD
  ·intro x hx
   rcases b9.mp hx with y | y
   ·obtain⟨r,g⟩:=e55 x y
    exact⟨r,keep x _ (λe=>e4 (e ▸ y)) g⟩
   ·rw[bb.mp y]
    exact⟨row,by rw[aL hp2F];exact aD⟩
  ·intro x hx
   rcases b9.mp hx with y | y
   ·exact e6 x y
   ·rw[bb.mp y]
    exact sm1.free hp2
 have mat0:Mat H2 F ls M0:=⟨by rw[ha1,e1],by rw[e2];exact hrl,e5,e3,e4⟩
 exact q F ls H2 sm1 mat0 hF e6
theorem aGC {H H':Hp}{T:List (List Int)}{v:V}{p:Addr}{L:List V}(h:Sh K H (gY T) v)(hp:H p=some (.lst L))(sx:SameX p H H'):Sh K H' (gY T) v:=by
 obtain⟨a,rs,rfl,ha,hl,g⟩:=h.tab
 refine aFj (rs:=rs) (vY ha hp sx) ⟨hl,λi row e=>?_⟩
 obtain⟨b,h1,h2⟩:=g i row e
 exact⟨b,h1,vY h2 hp sx⟩
theorem aIB {T:List (List Int)}{n:Nat}(q:Quad T n)(n1:1<=n)(n8:n<=8)(b:Bnd T n)(s:Sy T n):Et T n:=⟨q,n1,n8,s,λi hi=>(b i i hi hi).2.2,λi j hi hj=>(b i j hi hj).1,λi j hi hj=>(b i j hi hj).2.1⟩
theorem aIM {T:List (List Int)}{n i j:Nat}{w:Int}(h:Et T n)(hi:i<n)(hj:j<n)(hne:i≠j)(h0:0<=w)(h1:w<=1000000):Et (vD (vD T i j w) j i w) n:=by
 have q1:=gG (j:=j) (v:=w) h.quad hi
 have q2:=gG (j:=i) (v:=w) q1 hj
 have at3:∀a b,at2 (vD (vD T i j w) j i w) a b=if a=j/\b=i then w else if a=i/\b=j then w else at2 T a b:=λa b=>by rw[eD q1 hj hi,eD h.quad hi hj]
 refine⟨q2,h.one,h.most,λa b ha hb=>?_,λa ha=>?_,λa b ha hb=>?_,λa b ha hb=>?_⟩
 ·rw[at3,at3]
  have:=h.ev a b ha hb
  by_cases c1:a=j/\b=i
  ·rw[if_pos c1]
   by_cases c2:b=j/\a=i
   ·rw[if_pos c2]
   ·rw[if_neg c2,if_pos (by omega)]
  ·rw[if_neg c1]
   by_cases c2:a=i/\b=j
   ·rw[if_pos c2,if_pos (by omega)]
   ·rw[if_neg c2,if_neg (by omega),if_neg (by omega)]
    exact this
 ·rw[at3,if_neg (by omega),if_neg (by omega)]
  exact h.diag a ha
 ·rw[at3]
  have:=h.low a b ha hb
  split <;> first | exact h0 | (split <;> first | exact h0 | exact this)
 ·rw[at3]
  have:=h.big a b ha hb
  split <;> first | exact h1 | (split <;> first | exact h1 | exact this)
def ntB (K:aa) (cJ:Sp):TS:=(aT (bU (bI cJ [] E0 (aC (aF 0) (aC (aF 1) aR))) (aI 4)) (aT (bU (tOp sI (tOp (bK K) (tOp (bK K) (aF 4) (tC (.int 1))) (bI cJ [] E0 (aC (aF 0) (aC (tOp vN (aF 1) (tC (.int 1))) aR)))) (aF 1)) (aI 5)) (aT (bU (tOp (bO K) (rS (aC (tC (.int 1)) (aC (tC (.int 2)) (aC (tUn aHb (tC (.int 1))) (aC (tUn aHb (tC (.int 2))) (aC (tC (.int 5)) (aC (tC (.int 1000)) aR))))))) (bI cJ [] E0 (aC (aF 0) (aC (tC (.int 6)) aR)))) (aI 6)) (aT (bU (cU [none] (mS K (aF 3)) (aI 0) [] λacc=>(cP (tCB (tK K) (aC (aF 0) aR)) acc)) (aI 7)) (aT (bU (tCB tX (aC (tC (.int 1000000)) (aC (tCB vP (aC (tC (.int 0)) (aC (tOp (bK K) (tOp (bO K) (tOp (bO K) (aF 7) (aF 4)) (aF 5)) (aF 6)) aR))) aR))) (sF (tOp (bO K) (aF 7) (aF 4)) (aF 5) fY)) (aT (bU (tOp (bO K) (tOp (bO K) (aF 7) (aF 4)) (aF 5)) (sF (tOp (bO K) (aF 7) (aF 5)) (aF 4) fY)) (aT (bU (tCB (cW K) (aC (cU [none] (mS K (aF 7)) (aI 0) [] λacc=>(cP (tCB (cW K) (aC (aF 0) aR)) acc)) aR)) (aI 3)) aQ)))))))
theorem aIF {Df:hU}{H:Hp}{p lp:Addr}{ns:List Int}{b n:Nat}{v:V}{T:List (List Int)}{x2:Option V}(hP:PenN H p lp ns b)(hb:b<=80000)(hS:Sh K H (gY T) v)(et:Et T n)(n2:1<n)
  (q:∀x4 x5 x6 x7 T' v' H',PenN H' p lp ns (b+3)->SameX p H H'->Et T' n->Sh K H' (gY T') v'->Df.nx [some (.ref p),some (.int (n:Int)),x2,some v',x4,x5,x6,x7] H') :
  ntB K jS Df [some (.ref p),some (.int (n:Int)),x2,some v,none,none,none,none] H:=by
 have n8:=et.most
 refine⟨_,rfl,_,rfl,?_⟩
 dsimp only[aR,tC,fh,gm]
 refine tkN hP (by omega) (by omega) (by omega) λi H1 hi hP1 sx1=>?_
 obtain⟨PL,pL⟩:=hP.lst
 have hS1:=aGC hS pL sx1
 try dsimp only
 refine lN ?_
 refine⟨_,rfl,?_⟩
 dsimp only[tC]
 refine aGY (x:=i) (y:=1) ?_
 refine⟨_,rfl,_,rfl,_,_,rfl,rfl,?_⟩
 dsimp only[aR,tC,fh,gm]
 rw[show((n:Int) - 1)=((n - 1:Nat):Int) by omega]
 refine tkN hP1 (by omega) (by omega) (by omega) λr H2 hr hP2 sx2=>?_
 obtain⟨PL1,pL1⟩:=hP1.lst
 have hS2:=aGC hS1 pL1 sx2
 refine aGY (x:=i+1) (y:=r) ?_
 refine⟨_,rfl,_,_,rfl,rfl,by show(0:Int)<(n:Int);omega,?_⟩
 try dsimp only
 rw[aKE]
 obtain⟨j,hj⟩:∃j,j=(i+1+r) % n:=⟨_,rfl⟩
 have jn:j<n:=by rw[hj];exact Nat.mod_lt _ (by omega)
 have ij:i≠j:=by
  rw[hj]
  by_cases c:i+1+r<n
  ·rw[Nat.mod_eq_of_lt c];omega
  ·have:(i+1+r) % n=i+1+r - n:=by
    rw[Nat.mod_eq_sub_mod (by omega),Nat.mod_eq_of_lt (by omega)]
   omega
 rw[<- hj]
 refine lN ?_
 refine⟨_,rfl,_,rfl,show 6<=ba by decide,λlq hlq=>⟨_,rfl,?_⟩⟩
 have sq:=aG hlq (.lst [V.int 1, .int 2, .int (-1), .int (-2), .int 5, .int 1000])
 have nq:=hP2.ne hlq
 dsimp only[aC,aR,tC,fh,gm]
 refine tkN (m:=6) (hP2.x sq) (by omega) (by decide) (by decide) λr3 H3 hr3 hP3 sx3=>?_
 obtain⟨mo,hmo⟩:∃mo:Int,([V.int 1, .int 2, .int (-1), .int (-2), .int 5, .int 1000])[r3]?=some (.int mo):=by
  match r3,hr3 with
  |0,_=>exact⟨_,rfl⟩
  |1,_=>exact⟨_,rfl⟩
  |2,_=>exact⟨_,rfl⟩
  |3,_=>exact⟨_,rfl⟩
  |4,_=>exact⟨_,rfl⟩
  |5,_=>exact⟨_,rfl⟩
 refine ixL (j:=r3) (v := .int mo) (.of (sx3 _ _ nq.1 aD)) hmo ?_
 obtain⟨PL2,pL2⟩:=(hP2.x sq).lst
 have hS3:=aGC (hS2.same sq) pL2 sx3
 have sx03:SameX p H H3:=((sx1.trans sx2).trans sq.x).trans sx3
 try dsimp only
 refine lN (aLr (t:=3) (M0:=T) (n:=n) rfl hS3 et.quad n8 λF ls H4 s4 m4 hF hls=>?_)
 refine pI (t:=7) (si:=4) (sj:=5) m4 et.quad rfl rfl rfl hi jn ?_
 refine⟨_,rfl,?_⟩
 refine aJA ⟨0,_,rfl,1000000,_,rfl,?_⟩
 obtain⟨w,hw,w0,w1⟩:∃w:Int,(if(if at2 T i j+mo > 0 then at2 T i j+mo else 0)<1000000 then(if at2 T i j+mo > 0 then at2 T i j+mo else 0) else 1000000)=w/\0<=w/\w<=1000000:=⟨_,rfl,by split <;> (try split) <;> omega,by split <;> (try split) <;> omega⟩
 rw[hw]
 refine rC (t:=7) (si:=4) (sj:=5) m4 et.quad rfl rfl rfl hi jn λl5 H5 hl5 e5 m5=>?_
 have q5:=gG (j:=j) (v:=w) et.quad hi
 refine pI (t:=7) (si:=4) (sj:=5) m5 q5 rfl rfl rfl hi jn ?_
 rw[eD et.quad hi jn,if_pos ⟨rfl,rfl⟩]
 refine rC (t:=7) (si:=5) (sj:=4) m5 q5 rfl rfl rfl jn hi λl6 H6 hl6 e6' m6=>?_
 have s36:Same H3 H6:=λc o e=>by
  rw[e6',aL (aK e (hls l6 hl6)),e5,aL (aK e (hls l5 hl5))]
  exact s4 _ _ e
 have e2:=aIM et hi jn ij w0 w1
 try dsimp only
 refine lN (mV (t:=7) (n:=n) rfl m6 e2.quad (by omega) λp7 H7 s7 hS7=>?_)
 exact q _ _ _ _ _ _ _ (((hP3.x s36).x s7).le (by omega)) (sx03.trans (s36.trans s7).x) e2 hS7
inductive aFq (K : aa) (vs : List V) (H : Hp) (Q : VK) : Prop
 |mk (p l : Addr) (ns : List Int) (b : Nat) (h0 : vs = [.ref p]) (h1 : PenN H p l ns b) (h2 : b <= 70000) (h3 : ∀T n v H', Et T n -> Sh K H' (gY T) v -> PenN H' p l ns (b + 300) -> SameX p H H' -> Q v H') : aFq K vs H Q
def aKv (K:aa):Sp:=λvs H Q _=>aFq K vs H Q
theorem aJE:∀vs H Q E,aKv K vs H Q E->eM K (aAT K) (aHg K) (aBc K) jS (aKL K) { nx:=λ_ H'=>Q .non H',rt:=Q } (start ["pen","many","way","table","i","j","more","lines"] vs) H:=by
 intro vs H Q E h
 obtain⟨p,l,ns,b,rfl,hP,hb,q⟩:=h
 refine⟨_,rfl,?_⟩
 dsimp only[aC,aR,tC,fh,gm]
 refine tkN (m:=8) hP (by omega) (by decide) (by decide) λr H1 hr hP1 sx1=>?_
 refine aGY (x:=1) (y:=r) ?_
 obtain⟨n,hn⟩:∃n,n=1+r:=⟨_,rfl⟩
 rw[<- hn]
 have n1:1<=n:=by omega
 have n8:n<=8:=by omega
 refine⟨_,rfl,?_⟩
 dsimp only[aC,aR,tC,fh,gm]
 refine tkN (m:=5) hP1 (by omega) (by decide) (by decide) λw H2 hw hP2 sx2=>?_
 refine⟨_,rfl,_,_,rfl,rfl,_,rfl,?_⟩
 by_cases c:2<w
 ·refine cD (decide_eq_true (by omega)) ?_
  obtain⟨k,z,hA,hk⟩:=hP2
  refine⟨_,rfl,_,rfl,p,l,ns,k,z,n,true,rfl,hA,by omega,n1,n8,λT v k' z' H3 qT bT sy hS hA3 hk3 sx3=>?_⟩
  have hP3:PenN H3 p l ns (b+300):=⟨k',z',hA3,by omega⟩
  have sT:Sy T n:=sy rfl
  have sx:=(sx1.trans sx2).trans sx3
  refine⟨_,rfl, .int _, .int _,bc _,rfl,rfl,_,rfl,?_⟩
  rw[dP]
  by_cases c3:w=3
  ·refine cD (decide_eq_true (by omega)) ⟨_,rfl,v,T,n,rfl,hS,qT,bT,sT,n1,n8,λT' v' H4 s4 qT' bT' sT' _ hS'=>?_⟩
   exact q T' n v' H4 (aIB qT' n1 n8 bT' sT') hS' (hP3.x s4) (sx.trans s4.x)
  ·exact cB (decide_eq_false (by omega)) ⟨_,rfl,q T n v H3 (aIB qT n1 n8 bT sT) hS hP3 sx⟩
 ·refine cB (decide_eq_false (by omega)) ?_
  refine⟨_,rfl,_,rfl,p,l,ns,b+2,n,rfl,hP2,by omega,n1,n8,λa xs qs H3 hP3 sx3 ha hR hDn hdz ⟨hs,o0,o1,hv⟩=>?_⟩
  obtain⟨mq,q14,hok,_,hcn⟩:=aFo.mp hDn
  have tr:Tr qs:=by
   refine { len:=by omega,ok:=λt ht=>?_,tie:=λt ht=>?_,cn:=hcn }
   ·obtain⟨_,_,k1,k2,_⟩:=hok t ht
    obtain⟨_,k3,k4⟩:=hdz t ht
    show 0<=t.2.2.1/\t.2.2.1<2 ^ 104/\1<=t.2.2.2/\t.2.2.2<2 ^ 104
    omega
   ·obtain⟨k1,k2,_⟩:=hok t ht
    omega
  have hD:Dw K H3 a qs:=⟨xs,ha,hR⟩
  obtain⟨nb,et⟩:=aDH tr n1 n8 mq o0 o1 hv
  refine⟨_,rfl, .ref a,qs,n,rfl,hD.sh,tr,mq,λbad=>absurd bad nb,λ_ v H4 s4 hS=>?_⟩
  have hP4:=hP3.x s4
  have sx:=((sx1.trans sx2).trans sx3).trans s4.x
  have skip:∀H',H'=H4->Q v H':=λH' e=>by rw[e];exact q _ n v H4 et hS (hP4.le (by omega)) sx
  refine⟨_,rfl, .int _, .int _,bc _,rfl,rfl,_,rfl,?_⟩
  rw[dP]
  by_cases c2:w=2
  ·refine cD (decide_eq_true (by omega)) ⟨_,rfl,_,_,rfl,rfl,_,rfl,?_⟩
   by_cases c3:1<n
   ·refine cD (decide_eq_true (by omega)) ?_
    exact aIF (T:=tbL qs n) (n:=n) hP4 (by omega) hS et c3 λx4 x5 x6 x7 T' v' H' hP' sx' et' hS'=>⟨_,rfl,q T' n v' H' et' hS' (hP'.le (by omega)) (sx.trans sx')⟩
   ·exact cB (decide_eq_false (by omega)) ⟨_,rfl,skip _ rfl⟩
  ·exact cB (decide_eq_false (by omega)) (cB rfl ⟨_,rfl,skip _ rfl⟩)
inductive aCD (K : aa) (vs : List V) (H : Hp) (Q : VK) : Prop
 |mk (a : Addr) (ns : List Int) (h0 : vs = [.ref a]) (h1 : SqL K H a (ns.map V.int)) (h2 : ∀p l ms H', Same H H' -> PenAt H' p l ms 0 0 -> Q (.ref p) H') : aCD K vs H Q
def aIp (K:aa):Sp:=λvs H Q _=>aCD K vs H Q
theorem aHW:∀vs H Q E,aIp K vs H Q E->lH K { nx:=λ_ H'=>Q .non H',rt:=Q } (start ["script"] vs) H:=by
 intro vs H Q E h
 obtain⟨a,ns,rfl,hS,q⟩:=h
 refine⟨_,rfl,_,rfl, .inl ⟨a,_,rfl,hS,λsc hsc=>?_⟩⟩
 obtain⟨ms,ems,_⟩:=aDm ns none (some 63)
 rw[ems]
 refine .inl ⟨sc,_,rfl, .inl (.of aD),λl hl=>⟨show 3<=ba by decide,λp hp=>?_⟩⟩
 have hlp:l≠p:=λe=>by rw[<- e,aD] at hp;cases hp
 refine q p l ms _ (((aG hsc _).trans (aG hl _)).trans (aG hp _)) ⟨aD,?_,hlp⟩
 rw[aL hlp]
 exact aD
end
theorem uM:∀{N:List Nat}{f f':Nat->Int}{s:Nat}{a:Int},N.Nodup->s∈N->(∀v∈N,v≠s->f v=f' v)->f s=f' s+a->(N.map f).sum=(N.map f').sum+a
 |[],_,_,_,_,_,h,_,_=>by cases h
 |v :: N,f,f',s,a,nd,h,h1,h2=>by
  rw[b8,b8,j8,j8]
  have nd':=de.mp nd
  by_cases e:v=s
  ·subst e
   have:N.map f=N.map f':=fe λx hx=>h1 x (ar _ hx) λz=>nd'.1 (z ▸ hx)
   rw[this,h2]
   omega
  ·have hs:s∈N:=by
    rcases b6.mp h with z | z
    ·exact absurd z.symm e
    ·exact z
   rw[uM nd'.2 hs (λx hx=>h1 x (ar _ hx)) h2,h1 v (by simp) e]
   omega
theorem mJ {N:List Nat}{f f':Nat->Int}(h:∀v∈N,f v=f' v):(N.map f).sum=(N.map f').sum:=by rw[fe h]
theorem rV {N:List Nat}{f:Nat->Int}(h:∀v∈N,f v=0):(N.map f).sum=0:=by
 induction N with
 |nil=>rfl
 |cons v N ih=>rw[b8,j8,h v (by simp),ih λx hx=>h x (ar _ hx)];rfl
theorem aHH {N:List Nat}{f f':Nat->Int}(h:∀v∈N,f v<=f' v):(N.map f).sum<=(N.map f').sum:=by
 induction N with
 |nil=>exact nc _
 |cons v N ih=>
  rw[b8,b8,j8,j8]
  have:=h v (by simp)
  have:=ih λx hx=>h x (ar _ hx)
  omega
theorem rP {N:List Nat}{f g:Nat->Int}:(N.map λv=>f v+g v).sum=(N.map f).sum+(N.map g).sum:=by
 induction N with
 |nil=>rfl
 |cons v N ih=>rw[b8,b8,b8,j8,j8,j8,ih];omega
def ind (p:Prop):Int:=@ite _ p (gk p) 1 0
theorem nD {p:Prop}(h:p):ind p=1:=by unfold ind;exact @if_pos _ (gk p) h _ _ _
theorem jQ {p:Prop}(h:¬ p):ind p=0:=by unfold ind;exact @if_neg _ (gk p) h _ _ _
theorem aFB {p q:Prop}(h:p↔q):ind p=ind q:=by rw[propext h]
section
variable {D:Nat->Nat->Int}{n:Nat}{V:Nat->Prop}{r:Nat->Nat}{δ:Nat->Int}{par rk:Nat->Nat}{N:List Nat}
def wS (δ:Nat->Int) (par:Nat->Nat) (N:List Nat) (P:Nat->Prop):Int:=(N.map λv=>(δ v - δ (par v))*ind (P v)).sum
theorem An.step {y s:Nat}(h:An par y s):y=s\/(s≠0/\An par y (par s)):=by
 cases h with
 |refl=>exact .inl rfl
 |up h0 h=>exact .inr ⟨h0,h⟩
theorem aCI {y:Nat}(h:An par y 0):y=0:=by
 rcases h.step with h | ⟨h,_⟩
 ·exact h
 ·exact absurd rfl h
theorem uH (T:Tv D n V r δ par rk)(F:Fp D n)(nd:N.Nodup)(hN:∀v,v∈N↔V v/\v≠0){x:Nat}(hx:V x):∀(k s:Nat),rk s<=k->V s->wS δ par N (λv=>An par v s/\An par v x)=mt D r δ s x:=by
 have base:∀s,s=0->V s->wS δ par N (λv=>An par v s/\An par v x)=mt D r δ s x:=λs e hs=>by
  subst e
  have z:wS δ par N (λv=>An par v 0/\An par v x)=0:=rV λv hv=>by
   rw[jQ λh=>((hN v).mp hv).2 (aCI h.1),Bq]
  rw[z]
  have a:=T.zero
  have b:=(T.rep x hx).2.1
  have c:=F.gn (T.rep 0 hs).1 (T.rep x hx).1
  unfold mt
  omega
 intro k
 induction k with
 |zero=>
  intro s hk hs
  by_cases e:s=0
  ·exact base s e hs
  ·have:=T.rkd s hs e
   omega
 |succ k ih=>
  intro s hk hs
  by_cases e:s=0
  ·exact base s e hs
  ·have hr:=T.rkd s hs e
   have hu:=T.pin s hs e
   have h1:=ih (par s) (by omega) hu
   obtain⟨a1,a2⟩:=T.A s hs e
   have cu:=F.cut (r:=r x) (T.rep _ hu).1 (T.rep s hs).1 (T.rep x hx).1 a2
   have mp:mt D r δ (par s) x=min (δ (par s)) (mt D r δ s x):=by unfold mt;omega
   have b:=T.B x s hx hs e
   have sy:mt D r δ x s=mt D r δ s x:=by
    unfold mt
    have:=F.gs (T.rep x hx).1 (T.rep s hs).1
    omega
   rw[sy] at b
   have nu:¬ An par s (par s):=λh=>by
    have:=h.rank T hu
    omega
   have sp:wS δ par N (λv=>An par v s/\An par v x)=wS δ par N (λv=>An par v (par s)/\An par v x)+(δ s - δ (par s))*ind (An par s x):=by
    refine uM nd ((hN s).mpr ⟨hs,e⟩) (λv hv ne=>?_) ?_
    ·have:(An par v s/\An par v x)↔(An par v (par s)/\An par v x):=by
      constructor
      ·rintro⟨h,h'⟩
       rcases h.step with z | ⟨_,z⟩
       ·exact absurd z ne
       ·exact⟨z,h'⟩
      ·rintro⟨h,h'⟩
       exact⟨.up e h,h'⟩
     rw[aFB this]
    ·have e1:ind (An par s (par s)/\An par s x)=0:=jQ λz=>nu z.1
     have e2:ind (An par s s/\An par s x)=ind (An par s x):=aFB ⟨λz=>z.2,λz=>⟨.refl,z⟩⟩
     rw[e1,e2,Bq,fw]
   rw[sp,h1,mp]
   rcases b with b | b
   ·by_cases c:An par s x
    ·have g:=c.geo T F hx
     have:mt D r δ s x=δ s:=by unfold mt;omega
     rw[nD c,AA]
     omega
    ·rw[jQ c,Bq]
     omega
   ·by_cases c:δ (par s)=δ s
    ·rw[c,Int.sub_self,Int.zero_mul]
     omega
    ·have an:An par s x:=aES T F hs e (by omega) _ x (ay _) hx (by unfold mt at b;omega) (by unfold mt at b;omega)
     rw[nD an,AA]
     omega
theorem deep (T:Tv D n V r δ par rk)(F:Fp D n)(nd:N.Nodup)(hN:∀v,v∈N↔V v/\v≠0){s:Nat}(hs:V s):wS δ par N (λv=>An par v s)=δ s:=by
 have:=uH T F nd hN hs _ s (ay _) hs
 have e:wS δ par N (λv=>An par v s/\An par v s)=wS δ par N (λv=>An par v s):=mJ λv _=>by rw[aFB (and_self_iff)]
 rw[<- e,this]
 obtain⟨a,b,c⟩:=T.rep s hs
 unfold mt
 rw[F.gg a]
 omega
theorem aHZ (T:Tv D n V r δ par rk)(F:Fp D n)(nd:N.Nodup)(hN:∀v,v∈N↔V v/\v≠0){s x:Nat}(hs:V s)(hx:V x):ds D r δ s x=wS δ par N (λv=>¬ (An par v s↔An par v x)):=by
 have h1:=deep T F nd hN hs
 have h2:=deep T F nd hN hx
 have h3:=uH T F nd hN hx _ s (ay _) hs
 unfold ds
 rw[<- h1,<- h2,<- h3]
 have:∀v∈N,(δ v - δ (par v))*ind (An par v s)+(δ v - δ (par v))*ind (An par v x)=(δ v - δ (par v))*ind (¬ (An par v s↔An par v x))+((δ v - δ (par v))*ind (An par v s/\An par v x)+(δ v - δ (par v))*ind (An par v s/\An par v x)):=λv _=>by
  by_cases a:An par v s <;> by_cases b:An par v x
  ·rw[nD a,nD b,nD (⟨a,b⟩:An par v s/\An par v x),jQ (λz=>z ⟨λ_=>b,λ_=>a⟩)];omega
  ·rw[nD a,jQ b,jQ (λz:An par v s/\An par v x=>b z.2),nD (λz:(An par v s↔An par v x)=>b (z.mp a))];omega
  ·rw[jQ a,nD b,jQ (λz:An par v s/\An par v x=>a z.1),nD (λz:(An par v s↔An par v x)=>a (z.mpr b))];omega
  ·rw[jQ a,jQ b,jQ (λz:An par v s/\An par v x=>a z.1),jQ (λz=>z ⟨λh=>absurd h a,λh=>absurd h b⟩)];omega
 have e:=mJ this
 rw[rP,rP,rP] at e
 unfold wS
 try dsimp only at e
 dsimp only
 omega
end
def chg:List Bool->Nat
 |a :: b :: r=>(if a=b then 0 else 1)+chg (b :: r)
 |_=>0
theorem aCu {b:Bool}:∀(a:Bool) (l:List Bool),a≠b->1<=chg (a :: (l++[b]))
 |a,[],h=>by simp[chg,h]
 |a,c :: l,h=>by
  show 1<=(if a=c then 0 else 1)+chg (c :: (l++[b]))
  by_cases e:a=c
  ·subst e
   have:=aCu a l h
   omega
  ·rw[if_neg e];omega
theorem aAN:∀(l:List Bool),true∈l->2<=chg (false :: (l++[false]))
 |[],h=>by cases h
 |true :: l,_=>by
  show 2<=(if false=true then 0 else 1)+chg (true :: (l++[false]))
  have:=aCu true l (b:=false) (by decide)
  rw[if_neg (by decide)]
  omega
 |false :: l,h=>by
  have h':true∈l:=by simpa using h
  show 2<=(if false=false then 0 else 1)+chg (false :: (l++[false]))
  have:=aAN l h'
  omega
theorem qS {b:Bool}:∀(k:Nat) (l:List Bool),chg (bp (k+1) b++l)=chg (b :: l)
 |0,l=>rfl
 |k+1,l=>by
  have:=qS (b:=b) k l
  rw[gj,gj,fh,fh]
  show(if b=b then 0 else 1)+chg (b :: (bp k b++l))=_
  rw[if_pos rfl,Nat.zero_add]
  exact this
def Blk (l:List Bool):Prop:=∃i j k,l=bp i false++(bp j true++bp k false)
theorem aGK {l:List Bool}(h:Blk l):chg (false :: (l++[false]))<=2:=by
 obtain⟨i,j,k,rfl⟩:=h
 have e:false :: (bp i false++(bp j true++bp k false)++[false])=bp (i+1) false++(bp j true++(bp k false++[false])):=by
  rw[gj]
  simp
 rw[e,qS]
 have last:∀b k,chg (b :: (bp k false++[false]))<=1:=λb k=>by
  have e2:bp k false++[false]=bp (k+1) false:=by
   rw[<- List.replicate_succ']
  rw[e2]
  have e3:chg (bp (k+1) false)=0:=by
   have:=qS (b:=false) k []
   rw[ke] at this
   exact this
  have e4:chg (b :: bp (k+1) false)=(if b=false then 0 else 1)+chg (bp (k+1) false):=by
   rw[gj]
   rfl
  rw[e4,e3]
  split <;> omega
 cases j with
 |zero=>exact cg (last false k) (by decide)
 |succ j=>
  have e5:chg (false :: (bp (j+1) true++(bp k false++[false])))=1+chg (bp (j+1) true++(bp k false++[false])):=by
   rw[gj]
   rfl
  rw[e5,qS]
  have:=last true k
  omega
theorem zB:∀{l:List Bool},(∀b∈l,b=false)->chg (false :: (l++[false]))=0
 |[],_=>rfl
 |b :: l,h=>by
  obtain rfl:=h b (by simp)
  show(if false=false then 0 else 1)+chg (false :: (l++[false]))=0
  rw[zB λx hx=>h x (ar _ hx)]
  rfl
structure Hw (N:Nat)(par rk:Nat->Nat):Prop where
 n1:0<N
 up:∀v,v<N->v≠0->par v<N/\rk (par v)<rk v
 lt:∀v,v<N->rk v<N
def ch (N:Nat) (par:Nat->Nat) (x:Nat):List Nat:=(aw N).filter λy=>decide (y≠0/\par y=x)
def wk (N:Nat) (par:Nat->Nat):Nat->Nat->List Nat
 |0,x=>[x]
 |m+1,x=>x :: (ch N par x).flatMap (wk N par m)
section
variable {N:Nat}{par rk:Nat->Nat}
theorem iB {x y:Nat}:y∈ch N par x↔y<N/\y≠0/\par y=x:=by
 unfold ch
 rw[du,cf,decide_eq_true_iff]
theorem aFO (h:Hw N par rk){a y:Nat}(an:An par a y)(hy:y<N):a<N/\rk a<=rk y:=by
 induction an with
 |refl=>exact⟨hy,ay _⟩
 | @up v h0 _ ih=>
  obtain⟨a1,a2⟩:=h.up v hy h0
  have:=ih a1
  omega
theorem aIK {x y:Nat}(an:An par x y):y=x\/∃c,c≠0/\par c=x/\An par c y:=by
 induction an with
 |refl=>exact .inl rfl
 | @up v h0 _ ih=>
  rcases ih with e | ⟨c,h1,h2,h3⟩
  ·exact .inr ⟨v,h0,e, .refl⟩
  ·exact .inr ⟨c,h1,h2, .up h0 h3⟩
theorem An.trans {a b c:Nat}(h:An par a b)(g:An par b c):An par a c:=by
 induction g with
 |refl=>exact h
 |up h0 _ ih=>exact .up h0 ih
theorem aEm {a b y:Nat}(ha:An par a y)(hb:An par b y):An par a b\/An par b a:=by
 induction ha with
 |refl=>exact .inr hb
 | @up v h0 h ih=>
  rcases hb.step with e | ⟨_,hb'⟩
  ·subst e;exact .inl (.up h0 h)
  ·exact ih hb'
theorem xR {x c v:Nat}(h0:c≠0)(hp:par c=x)(h:An par v c):v=c\/An par v x:=by
 rcases h.step with e | ⟨_,e⟩
 ·exact .inl e
 ·rw[hp] at e;exact .inr e
theorem iV (h:Hw N par rk):∀(m x:Nat),x<N->N<=rk x+m->∀y,y∈wk N par m x↔y<N/\An par x y
 |0,x,hx,hm=>by have:=h.lt x hx;omega
 |m+1,x,hx,hm=>λy=>by
  show y∈x :: (ch N par x).flatMap (wk N par m)↔_
  rw[b6,jc]
  constructor
  ·rintro(e | ⟨c,hc,hy⟩)
   ·rw[e];exact⟨hx, .refl⟩
   ·obtain⟨c1,c2,c3⟩:=iB.mp hc
    obtain⟨_,u2⟩:=h.up c c1 c2
    rw[c3] at u2
    obtain⟨y1,y2⟩:=(iV h m c c1 (by omega) y).mp hy
    refine⟨y1,An.trans ?_ y2⟩
    rw[<- c3]
    exact .up c2 .refl
  ·rintro⟨y1,y2⟩
   rcases aIK y2 with e | ⟨c,c2,c3,c4⟩
   ·exact .inl e
   ·obtain⟨c1,_⟩:=aFO h c4 y1
    obtain⟨_,u2⟩:=h.up c c1 c2
    rw[c3] at u2
    exact .inr ⟨c,iB.mpr ⟨c1,c2,c3⟩,(iV h m c c1 (by omega) y).mpr ⟨y1,c4⟩⟩
theorem sN (h:Hw N par rk){x c c' y:Nat}(h1:c<N/\c≠0/\par c=x)(h2:c'<N/\c'≠0/\par c'=x)(a1:An par c y)(a2:An par c' y):c=c':=by
 have key:∀c c',c<N/\c≠0/\par c=x->c'<N/\c'≠0/\par c'=x->An par c c'->c=c':=λc c' h1 h2 a=>by
  rcases xR h2.2.1 h2.2.2 a with e | e
  ·exact e
  ·have u:=h.up c h1.1 h1.2.1
   rw[h1.2.2] at u
   have:=aFO h e u.1
   omega
 rcases aEm a1 a2 with a | a
 ·exact key c c' h1 h2 a
 ·exact(key c' c h2 h1 a).symm
theorem rT {α β:Type}{g:α->List β}:∀{l:List α},l.Nodup->(∀x∈l,(g x).Nodup)->(∀x∈l,∀y∈l,x≠y->∀z,z∈g x->z∈g y->False)->(l.flatMap g).Nodup
 |[],_,_,_=>kd
 |a :: l,nd,h1,h2=>by
  have nd':=de.mp nd
  rw[gu]
  refine mw.mpr ⟨h1 a (by simp),rT nd'.2 (λx hx=>h1 x (ar _ hx)) (λx hx y hy=>h2 x (ar _ hx) y (ar _ hy)),λz hz w hw e=>?_⟩
  obtain⟨b,hb,hw⟩:=jc.mp hw
  subst e
  exact h2 a (by simp) b (ar _ hb) (λz=>nd'.1 (z ▸ hb)) z hz hw
theorem aFR (h:Hw N par rk):∀(m x:Nat),x<N->N<=rk x+m->(wk N par m x).Nodup
 |0,x,hx,hm=>by have:=h.lt x hx;omega
 |m+1,x,hx,hm=>by
  have fu:∀c,c∈ch N par x->c<N/\N<=rk c+m:=λc hc=>by
   obtain⟨c1,c2,c3⟩:=iB.mp hc
   obtain⟨_,u2⟩:=h.up c c1 c2
   rw[c3] at u2
   omega
  show(x :: (ch N par x).flatMap (wk N par m)).Nodup
  refine de.mpr ⟨λhm'=>?_,rT (iu.filter _) (λc hc=>aFR h m c (fu c hc).1 (fu c hc).2) λc hc c' hc' ne z hz hz'=>?_⟩
  ·obtain⟨c,hc,hy⟩:=jc.mp hm'
   obtain⟨c1,c2,c3⟩:=iB.mp hc
   have a:=((iV h m c (fu c hc).1 (fu c hc).2 x).mp hy).2
   have:=(aFO h a hx).2
   have:=(h.up c c1 c2).2
   rw[c3] at this
   omega
  ·exact ne (sN h (iB.mp hc) (iB.mp hc') ((iV h m c (fu c hc).1 (fu c hc).2 z).mp hz).2 ((iV h m c' (fu c' hc').1 (fu c' hc').2 z).mp hz').2)
theorem aCd (h:Hw N par rk){m x:Nat}(hx:x<N)(hm:N<=rk x+m):(wk N par m x).length<=N:=by
 have:=eA (wk N par m x) (aw N) (aFR h m x hx hm) λy hy=>cf.mpr ((iV h m x hx hm y).mp hy).1
 rwa[cz] at this
def BlF (b:Nat->Prop) (l:List Nat):Prop:=∃l1 l2 l3,l=l1++(l2++l3)/\(∀x∈l1,¬ b x)/\(∀x∈l2,b x)/\∀x∈l3,¬ b x
theorem aIt {b:Nat->Prop}{l:List Nat}(h:∀x∈l,¬ b x):BlF b l:=⟨l,[],[],by simp,h,by simp,by simp⟩
theorem uQ {b:Nat->Prop}{l l':List Nat}(h:∀x∈l,¬ b x)(g:BlF b l'):BlF b (l++l'):=by
 obtain⟨l1,l2,l3,rfl,h1,h2,h3⟩:=g
 refine⟨l++l1,l2,l3,by simp,λx hx=>?_,h2,h3⟩
 rcases b9.mp hx with hx | hx
 ·exact h x hx
 ·exact h1 x hx
theorem aDl {b:Nat->Prop}{l l':List Nat}(h:∀x∈l,¬ b x)(g:BlF b l'):BlF b (l'++l):=by
 obtain⟨l1,l2,l3,rfl,h1,h2,h3⟩:=g
 refine⟨l1,l2,l3++l,by simp,h1,h2,λx hx=>?_⟩
 rcases b9.mp hx with hx | hx
 ·exact h3 x hx
 ·exact h x hx
theorem wZ {b:Nat->Prop}{g:Nat->List Nat}:∀{cs:List Nat},cs.Nodup->(∀c∈cs,BlF b (g c))->(∀c∈cs,∀c'∈cs,c≠c'->(∃x∈g c,b x)->(∃x∈g c',b x)->False)->BlF b (cs.flatMap g)
 |[],_,_,_=>aIt (by simp)
 |c :: cs,nd,h1,h2=>by
  have nd':=de.mp nd
  rw[gu]
  by_cases q:∃x∈g c,b x
  ·refine aDl (λx hx hb=>?_) (h1 c (by simp))
   obtain⟨c',hc',hx⟩:=jc.mp hx
   exact h2 c (by simp) c' (ar _ hc') (λe=>nd'.1 (e ▸ hc')) q ⟨x,hx,hb⟩
  ·exact uQ (λx hx hb=>q ⟨x,hx,hb⟩) (wZ nd'.2 (λc hc=>h1 c (ar _ hc)) λc hc c' hc'=>h2 c (ar _ hc) c' (ar _ hc'))
theorem aHL (h:Hw N par rk){v:Nat}:∀(m x:Nat),x<N->N<=rk x+m->BlF (λy=>An par v y) (wk N par m x)
 |0,x,hx,hm=>by have:=h.lt x hx;omega
 |m+1,x,hx,hm=>by
  have fu:∀c,c∈ch N par x->c<N/\N<=rk c+m:=λc hc=>by
   obtain⟨c1,c2,c3⟩:=iB.mp hc
   obtain⟨_,u2⟩:=h.up c c1 c2
   rw[c3] at u2
   omega
  by_cases a:An par v x
  ·exact⟨[],wk N par (m+1) x,[],by simp,by simp,λy hy=>a.trans ((iV h (m+1) x hx hm y).mp hy).2,by simp⟩
  ·show BlF _ ([x]++(ch N par x).flatMap (wk N par m))
   refine uQ (λy hy=>by rw[bb.mp hy];exact a) (wZ (iu.filter _) (λc hc=>aHL h m c (fu c hc).1 (fu c hc).2) λc hc c' hc' ne ⟨y,hy,by1⟩ ⟨z,hz,bz⟩=>?_)
   have below:∀c,c∈ch N par x->∀y,y∈wk N par m c->An par v y->An par c v:=λc hc y hy b=>by
    obtain⟨c1,c2,c3⟩:=iB.mp hc
    rcases aEm ((iV h m c (fu c hc).1 (fu c hc).2 y).mp hy).2 b with z | z
    ·exact z
    ·rcases xR c2 c3 z with e | e
     ·rw[e];exact .refl
     ·exact absurd e a
   exact ne (sN h (iB.mp hc) (iB.mp hc') (below c hc y hy by1) (below c' hc' z hz bz))
theorem aAe {b:Nat->Prop}{l:List Nat}{p:Nat->Bool}(h:BlF b l):BlF b (l.filter p):=by
 obtain⟨l1,l2,l3,rfl,h1,h2,h3⟩:=h
 exact⟨l1.filter p,l2.filter p,l3.filter p,by rw[rh,rh],λx hx=>h1 x (du.mp hx).1,λx hx=>h2 x (du.mp hx).1,λx hx=>h3 x (du.mp hx).1⟩
def bo (p:Prop):Bool:=@decide p (gk p)
theorem aHd {p:Prop}(h:p):bo p=true:=by unfold bo;exact @decide_eq_true p (gk p) h
theorem aEt {p:Prop}(h:¬ p):bo p=false:=by unfold bo;exact @decide_eq_false p (gk p) h
theorem aFv {b:Nat->Prop}{l:List Nat}(h:BlF b l):Blk (l.map λx=>bo (b x)):=by
 obtain⟨l1,l2,l3,rfl,h1,h2,h3⟩:=h
 refine⟨l1.length,l2.length,l3.length,?_⟩
 rw[bu,bu]
 have r:∀(l:List Nat) (c:Bool),(∀x∈l,bo (b x)=c)->l.map (λx=>bo (b x))=bp l.length c:=λl c h=>List.eq_replicate_iff.mpr ⟨ai ..,λy hy=>by
  obtain⟨x,hx,rfl⟩:=bj.mp hy
  exact h x hx⟩
 rw[r l1 false λx hx=>aEt (h1 x hx),r l2 true λx hx=>aHd (h2 x hx),r l3 false λx hx=>aEt (h3 x hx)]
def pth (t:Nat->Nat->Int):List Nat->Int
 |a :: b :: l=>t a b+pth t (b :: l)
 |_=>0
variable {D:Nat->Nat->Int}{n:Nat}{V:Nat->Prop}{r:Nat->Nat}{δ:Nat->Int}{M:List Nat}
theorem wL (T:Tv D n V r δ par rk)(F:Fp D n)(nd:M.Nodup)(hN:∀v,v∈M↔V v/\v≠0):∀l:List Nat,(∀x∈l,V x)->pth (ds D r δ) l=(M.map λv=>(δ v - δ (par v))*((chg (l.map λx=>bo (An par v x)):Nat):Int)).sum
 |[],_=>(rV λv _=>by show _*((0:Nat):Int)=0;simp).symm
 |[a],_=>(rV λv _=>by show _*((0:Nat):Int)=0;simp).symm
 |a :: b :: l,h=>by
  show ds D r δ a b+pth (ds D r δ) (b :: l)=_
  rw[wL T F nd hN (b :: l) λx hx=>h x (ar _ hx),aHZ T F nd hN (h a (by simp)) (h b (by simp))]
  unfold wS
  rw[<- rP]
  refine mJ λv _=>?_
  show(δ v - δ (par v))*ind (¬ (An par v a↔An par v b))+(δ v - δ (par v))*((chg ((b :: l).map λx=>bo (An par v x)):Nat):Int)=(δ v - δ (par v))*(((if bo (An par v a)=bo (An par v b) then 0 else 1)+chg ((b :: l).map λx=>bo (An par v x)):Nat):Int)
  rw[<- Int.mul_add,Ad]
  congr 2
  by_cases p:An par v a <;> by_cases q:An par v b
  ·rw[aHd p,aHd q,jQ (λz=>z ⟨λ_=>q,λ_=>p⟩)];rfl
  ·rw[aHd p,aEt q,nD (λz:(An par v a↔An par v b)=>q (z.mp p))];rfl
  ·rw[aEt p,aHd q,nD (λz:(An par v a↔An par v b)=>p (z.mpr q))];rfl
  ·rw[aEt p,aEt q,jQ (λz=>z ⟨λh=>absurd h p,λh=>absurd h q⟩)];rfl
theorem vH (T:Tv D n V r δ par rk)(F:Fp D n)(nd:M.Nodup)(hN:∀v,v∈M↔V v/\v≠0){a b:List Nat}(ha:∀x∈a,V x)(hb:∀x∈b,V x)(same:∀x,x∈a->x∈b)(bl:∀v,BlF (λy=>An par v y) a):pth (ds D r δ) (0 :: (a++[0]))<=pth (ds D r δ) (0 :: (b++[0])):=by
 have v0:=T.root
 have inv:∀l:List Nat,(∀x∈l,V x)->∀x∈0 :: (l++[0]),V x:=λl h x hx=>by
  rcases b6.mp hx with rfl | hx
  ·exact v0
  ·rcases b9.mp hx with hx | hx
   ·exact h x hx
   ·rw[bb.mp hx];exact v0
 rw[wL T F nd hN _ (inv a ha),wL T F nd hN _ (inv b hb)]
 refine aHH λv hv=>?_
 obtain⟨hv1,hv0⟩:=(hN v).mp hv
 have w0:=(T.A v hv1 hv0).1
 refine uj ?_ (by omega)
 have z:bo (An par v 0)=false:=aEt λh=>hv0 (aCI h)
 have sh:∀l:List Nat,(0 :: (l++[0])).map (λx=>bo (An par v x))=false :: (l.map (λx=>bo (An par v x))++[false]):=λl=>by
  rw[b8,bu,z]
  show _ :: (_++[bo (An par v 0)])=_
  rw[z]
 rw[sh a,sh b]
 by_cases c:∃x∈a,An par v x
 ·obtain⟨x,hx,hn⟩:=c
  have u:=aGK (aFv (bl v))
  have l:=aAN (b.map λx=>bo (An par v x)) (bj.mpr ⟨x,same x hx,aHd hn⟩)
  have u:chg (false :: (a.map (λx=>bo (An par v x))++[false]))<=2:=u
  omega
 ·have u:chg (false :: (a.map (λx=>bo (An par v x))++[false]))=0:=zB λy hy=>by
   obtain⟨x,hx,rfl⟩:=bj.mp hy
   exact aEt λh=>c ⟨x,hx,h⟩
  omega
end
def mm (e:Nat×Nat):Nat×Nat:=(min e.1 e.2,max e.1 e.2)
structure Hl (N:Nat)(L:List (Nat×Nat))(par rk:Nat->Nat):Prop extends Hw N par rk where
 ndL:L.Nodup
 strict:∀e∈L,e.1<e.2/\e.2<N
 tie:∀x y,x<N->y<N->(mm (x,y)∈L↔(x≠0/\par x=y)\/(y≠0/\par y=x))
def nbr (n:Nat) (L:List (Nat×Nat)) (x:Nat):List Nat:=(aw n).filter λy=>decide (mm (x,y)∈L)
def deg (L:List (Nat×Nat)) (a:Nat):Nat:=L.countP λe=>decide (a=e.1\/a=e.2)
section
variable {K:aa}
theorem vV {L:List (Nat×Nat)}{F:(Nat×Nat)->List V}:((aw L.length).flatMap λi=>match L[i]? with | some e=>F e | none=>[])=L.flatMap F:=by
 have e:(aw L.length).map (λi=>L[i]?)=L.map some:=by
  apply ui
  ·simp
  ·intro i h1 h2
   simp at h1 h2 ⊢
 have:((aw L.length).map (λi=>L[i]?)).flatMap (λo=>match o with | some e=>F e | none=>[])=(L.map some).flatMap (λo=>match o with | some e=>F e | none=>[]):=by rw[e]
 rw[uk,uk] at this
 exact this
section
variable {vars:List Nat}{tb:TS}{acc a:Addr}{σ:St}{H:Hp}{xs:List V}{L:List (Nat×Nat)}{j k:Nat}{F:(Nat×Nat)->List V}
def aJs (K:aa) (vars:List Nat) (tb:TS) (acc:Addr) (σ:St) (H:Hp) (L:List (Nat×Nat)) (j k:Nat) (F:(Nat×Nat)->List V):Prop:=∀e∈L,∀σ' H',σ'.length=σ.length->Agree vars σ σ'->σ'[j]?=some (some (bW e.1))->σ'[k]?=some (some (bW e.2))->SameX acc H H'->(∃pre,H' acc=some (.lst pre))->Emits vars tb acc σ' H' (F e)
theorem aGN (hj:j∈vars)(hk:k∈vars)(hjk:k≠j)(hjl:j<σ.length)(hkl:k<σ.length)(hx:∀H',SameX acc H H'->SqL K H' a xs/\Rows K H' xs (prN L))(h:aJs K vars tb acc σ H L j k F) :
  Emits vars (eK (Itl K a) (tD K 2 (cK (aI j) (cK (aI k) vG))) tb) acc σ H (L.flatMap F):=by
 intro D pre ha hz hd
 have hl:xs.length=L.length:=by rw[(hx H (SameX.refl _ _)).2.1];unfold prN;rw[ai]
 rw[<- vV] at hz hd
 refine gS (K:=K) (a:=a) (xs:=xs) (D:=D) (λi σ' H'=>i<=xs.length/\σ'.length=σ.length/\Agree vars σ σ'/\SameX acc H H'/\H' acc=some (.lst (pre++(aw i).flatMap λi=>match L[i]? with | some e=>F e | none=>[]))) ⟨bc _,rfl,Agree.refl _ _,SameX.refl _ _,by simpa using ha⟩ (λi σ1 H1 _ ⟨_,_,_,sx1,_⟩=>(hx H1 sx1).1) (λi x σ1 H1 hxi ⟨_,hl1,ag1,sx1,e1⟩=>?_) λσ1 H1 ⟨_,hl1,ag1,sx1,e1⟩=>hd σ1 H1 hl1 ag1 sx1 (by rw[hl] at e1;exact e1)
 have hi:i<xs.length:=(au.mp hxi).1
 have hle:=bX (λi=>match L[i]? with | some e=>F e | none=>[]) (show i+1<=L.length by omega)
 rw[aO,ao] at hle
 obtain⟨e,b,he,rfl,hb⟩:=aIj (hx H1 sx1).2 hxi
 simp only[he] at hle
 refine⟨b,_,rfl,hb,rfl,bW e.1,[bW e.2],rfl,bW e.2,[],rfl,rfl,?_⟩
 have ag2:Agree vars σ ((σ1.set j (some (bW e.1))).set k (some (bW e.2))):=(ag1.trans (Agree.set hj _)).trans (Agree.set hk _)
 refine h e (cb he) ((σ1.set j (some (bW e.1))).set k (some (bW e.2))) H1 (by rw[dg,dg];exact hl1) ag2 ?_ (eW (by rw[dg];omega)) sx1 ⟨_,e1⟩ _ _ e1 (by rw[ao];omega) λσ' H' hl' ag sx h2=>⟨hi,(hl'.trans (by rw[dg,dg])).trans hl1,ag2.trans ag,sx1.trans sx,by rw[h2,aO,iy];simp only[he]⟩
 rw[gv hjk]
 exact eW (by omega)
end
theorem aHn {c:Bool}{x:Int}:(if c=true then[V.int x] else[])=(if c=true then[x] else[]).map V.int:=by cases c <;> rfl
theorem aCB {a b c:Nat}:inV (.int (a:Int)) [bW b,bW c]=decide (a=b\/a=c):=by
 unfold inV
 by_cases h:a=b\/a=c
 ·rw[decide_eq_true h,ny]
  rcases h with h | h
  ·exact⟨bW b,by simp,by simp[eqV,bW];omega⟩
  ·exact⟨bW c,by simp,by simp[eqV,bW];omega⟩
 ·rw[decide_eq_false h,t8]
  intro x hx
  rcases b6.mp hx with e | hx
  ·subst e;simp[eqV,bW];omega
  ·rw[bb.mp hx];simp[eqV,bW];omega
def oO (L:List (Nat×Nat)) (a:Nat):List Int:=L.flatMap λe=>if decide (a=e.1\/a=e.2)=true then[(e.1:Int)+(e.2:Int) - (a:Int)] else[]
theorem xT {L:List (Nat×Nat)}{a:Nat}:(oO L a).length=deg L a:=by
 unfold oO deg
 induction L with
 |nil=>rfl
 |cons e L ih=>
  rw[gu,ao,ih,yv]
  by_cases c:decide (a=e.1\/a=e.2)=true
  ·rw[if_pos c,if_pos c];show 1+_=_+1;omega
  ·rw[if_neg c,if_neg c];show 0+_=_+0;omega
theorem aFd {L:List (Nat×Nat)}{a:Nat}:deg L a<=L.length:=List.countP_le_length
theorem aEa {L:List (Nat×Nat)}{x:Nat}{v:Int}:v∈oO L x↔∃e∈L,(x=e.1\/x=e.2)/\v=(e.1:Int)+(e.2:Int) - (x:Int):=by
 unfold oO
 rw[jc]
 constructor
 ·rintro⟨e,he,h⟩
  split at h
  ·rename_i c
   exact⟨e,he,of_decide_eq_true c,bb.mp h⟩
  ·cases h
 ·rintro⟨e,he,c,rfl⟩
  exact⟨e,he,by rw[if_pos (decide_eq_true c)];simp⟩
theorem aHR {n:Nat}{L:List (Nat×Nat)}{par rk:Nat->Nat}(h:Hl n L par rk){x:Nat}{ms:List Int}(pm:ms.Perm (oO L x))(srt:ms.Pairwise (·<=·)):ms=(nbr n L x).map λy:Nat=>(y:Int):=by
 have ndT:(oO L x).Nodup:=by
  refine rT h.ndL (λe _=>by split <;> simp) λe he g hg hn z hz hw=>?_
  have s1:=h.strict e he
  have s2:=h.strict g hg
  split at hz
  ·split at hw
   ·rename_i c1 c2
    have c1:=of_decide_eq_true c1
    have c2:=of_decide_eq_true c2
    have z1:=bb.mp hz
    have z2:=bb.mp hw
    refine hn (yc ?_ ?_) <;> omega
   ·cases hw
  ·cases hz
 have ndN:((nbr n L x).map λy:Nat=>(y:Int)).Nodup:=by
  rw[ku,t9]
  exact(ku.mp (iu.filter _)).imp λh e=>h (by omega)
 have p2:(oO L x).Perm ((nbr n L x).map λy:Nat=>(y:Int)):=by
  refine(kr ndT ndN).mpr λv=>?_
  rw[aEa,bj]
  constructor
  ·rintro⟨e,he,c,rfl⟩
   have s:=h.strict e he
   refine⟨e.1+e.2 - x,du.mpr ⟨cf.mpr (by omega),decide_eq_true ?_⟩,by omega⟩
   have:mm (x,e.1+e.2 - x)=e:=by
    unfold mm
    refine yc ?_ ?_
    ·show min x (e.1+e.2 - x)=e.1;omega
    ·show max x (e.1+e.2 - x)=e.2;omega
   rw[this];exact he
  ·rintro⟨y,hy,rfl⟩
   have hy:=of_decide_eq_true (du.mp hy).2
   refine⟨_,hy,?_,?_⟩
   ·show x=min x y\/x=max x y;omega
   ·show(y:Int)=((min x y:Nat):Int)+((max x y:Nat):Int) - (x:Int);omega
 refine(pm.trans p2).eq_of_pairwise (λa b _ _ p q=>by omega) srt ?_
 rw[t9]
 exact(zb.filter _).imp λh=>by omega
inductive aEP (K : aa) (vs : List V) (H : Hp) (Q : VK) : Prop
 |mk (t : Addr) (ys : List V) (n : Nat) (L : List (Nat×Nat)) (par rk : Nat -> Nat) (x : Nat) (h0 : vs = [.ref t, .int (x : Int)]) (h1 : H t = some (.lst ys)) (h2 : Rows K H ys (prN L)) (h3 : Hl n L par rk) (h4 : L.length <= 63) (h5 : ∀l H', Same H H' -> H l = none -> H' l = some (.lst ((nbr n L x).map bW)) -> Q (.ref l) H') : aEP K vs H Q
def aKx (K:aa):Sp:=λvs H Q _=>aEP K vs H Q
theorem aJw:∀vs H Q E,aKx K vs H Q E->sX K { nx:=λ_ H'=>Q .non H',rt:=Q } (start ["ties","place"] vs) H:=by
 intro vs H Q E h
 obtain⟨t,xs,n,L,par,rk,a,rfl,ht,hr,hg,hz,q⟩:=h
 refine⟨_,rfl,t,rfl, .inl ⟨⟨_, .of ht⟩,λA hA=>?_⟩⟩
 refine cT [0,1] ((oO L a).map V.int) hA ?_ (Emits.cast (aGN (K:=K) (xs:=xs) (L:=L) (F:=λe=>(if decide (a=e.1\/a=e.2)=true then[(e.1:Int)+(e.2:Int) - (a:Int)] else[]).map V.int) (by decide) (by decide) (by decide) (by show 0<3;decide) (by show 1<3;decide) (λH' sx=>⟨.of (bR hA sx _ _ ht),hr.same (bR hA sx)⟩) λe he σ1 H1 l1 ag1 s0 s1 sx1 hp1=>?_) ?_) λσ2 H2 s2 hl2=>?_
 ·rw[ai,xT];exact cg aFd (by omega)
 ·have t2:σ1[2]?=some (some (.int (a:Int))):=(ag1 2 (by decide)).trans rfl
  refine Emits.cast (qP (c:=decide (a=e.1\/a=e.2)) (L:=[V.int ((e.1:Int)+(e.2:Int) - (a:Int))]) (λ_ _=>trivial) (λR hR=>⟨_,t2,_,s0,_,s1,show 2<=ba by decide,λw hw=>?_⟩) λ_ H3 s3=>eJ λR hR=>⟨_,s0,_,s1,?_⟩) aHn
  ·refine .inl ⟨w,_,rfl, .inr (.of aD),rfl,rfl,_,rfl,?_⟩
   have:(if false=true then !inV (V.int (a:Int)) [bW e.1,bW e.2] else inV (.int (a:Int)) [bW e.1,bW e.2])=decide (a=e.1\/a=e.2):=aCB
   have:=hR _ (aG hw (.tup [bW e.1,bW e.2]))
   rw[<- aCB] at this
   exact this
  ·dsimp only[bK,bW]
   exact⟨_,t2,_,_,rfl,rfl,hR H3 (Same.refl _)⟩
 ·unfold oO;rw[List.map_flatMap]
 ·refine .inl ⟨A,oO L a,rfl, .inl (.of hl2),by rw[xT];exact cw aFd (by omega),λms pm srt l hl=>?_⟩
  rw[aHR hg pm srt,<- lY]
  exact q l _ (s2.trans (aG hl _)) (s2.free hl) aD
def aJg (K:aa):Nat->Sp
 |0=>λ_ _ _ _=>False
 |m+1=>λvs H Q _=>∃(t:Addr) (ys:List V) (n:Nat) (L:List (Nat×Nat)) (par rk:Nat->Nat) (x:Nat) (bf:V),vs=[.ref t, .int (x:Int),bf]/\H t=some (.lst ys)/\Rows K H ys (prN L)/\Hl n L par rk/\L.length<=63/\n<=14/\x<n/\n<=rk x+(m+1) /\
  (x≠0->bf=bW (par x))/\(x=0->bf = .non)/\∀F H',Same H H'->H F=none->H' F=some (.lst ((wk n par (m+1) x).map bW))->Q (.ref F) H'
theorem lP {l:List Nat}{i y:Nat}{p:Nat->Bool}(h:l[i]?=some y):(l.take (i+1)).filter p=(l.take i).filter p++if p y=true then[y] else[]:=by
 rw[iz,h,rh]
 congr 1
 show[y].filter p=_
 cases hp:p y <;> simp[hp]
theorem aIh {n:Nat}{L:List (Nat×Nat)}{par rk:Nat->Nat}(h:Hl n L par rk){x:Nat}(hx:x<n):(nbr n L x).filter (λy=>decide (y≠0/\par y=x))=ch n par x:=by
 unfold nbr ch
 rw[List.filter_filter]
 refine List.filter_congr λy hy=>?_
 by_cases c:y≠0/\par y=x
 ·rw[decide_eq_true c,decide_eq_true ((h.tie x y hx (cf.mp hy)).mpr (.inr c))];rfl
 ·rw[decide_eq_false c];rfl
theorem zG {g:Nat->List Nat}{k:Nat}:∀{B:List Nat},(∀b∈B,(g b).length<=k)->(B.flatMap g).length<=B.length*k
 |[],_=>by simp
 |b :: B,h=>by
  rw[gu,ao,bq,Nat.add_mul,Nat.one_mul]
  have:=h b (by simp)
  have:=zG λc hc=>h c (ar _ hc)
  omega
theorem aJC (m:Nat):∀vs H Q E,aJg K (m+1) vs H Q E->jA K (aKx K) (aJg K m) { nx:=λ_ H'=>Q .non H',rt:=Q } (start ["ties","place","before","found","tied"] vs) H:=by
 intro vs H Q E h
 obtain⟨t,ys,n,L,par,rk,x,bf,rfl,ht,hr,hg,hz,n14,hx,hm,hb1,hb2,q⟩:=h
 refine⟨_,rfl,show 1<=ba by decide,λF hF=>?_⟩
 have s0:=aG hF (.lst [.int (x:Int)])
 refine⟨_,rfl,_,rfl,t,ys,n,L,par,rk,x,rfl,s0 _ _ ht,hr.same s0,hg,hz,λl H1 s1 hl0 hl=>?_⟩
 have s01:=s0.trans s1
 have hF1:=s1 _ _ (show upd H F (.lst [.int (x:Int)]) F=some (.lst [.int (x:Int)]) from aD)
 have lF:l≠F:=λe=>by rw[e,aD] at hl0;cases hl0
 refine⟨l,rfl, .inl ⟨⟨_, .of hl⟩,?_⟩⟩
 have nxt:∀{G1 G2:Hp},Same H G1->SameX F G1 G2->Same H G2:=λs1 sx b o e=>sx b o (aK e hF) (s1 b o e)
 refine gS (K:=K) (a:=l) (xs:=(nbr n L x).map bW) (λi σ' H'=>(∃x4,σ'=[some (.ref t),some (.int (x:Int)),some bf,some (.ref F),x4])/\Same H H'/\H' l=some (.lst ((nbr n L x).map bW))/\H' F=some (.lst ((x :: (((nbr n L x).take i).filter λy=>decide (y≠0/\par y=x)).flatMap (wk n par m)).map bW))) ⟨⟨_,rfl⟩,s01,hl,hF1⟩ (λi σ' H' _ ⟨_,_,h,_⟩ => .of h) (λi v σ' H' hv ⟨⟨x4,es⟩,s2,hl2,hF2⟩=>?_) λσ' H' ⟨⟨x4,es⟩,s2,hl2,hF2⟩=>?_
 ·subst es
  rw[az] at hv
  obtain⟨y,hy,rfl⟩:=ip.mp hv
  have hyN:=cb hy
  obtain⟨hyn,hyt⟩:=du.mp hyN
  have hyn:=cf.mp hyn
  have hyt:=(hg.tie x y hx hyn).mp (of_decide_eq_true hyt)
  rw[lP hy,qa]
  obtain⟨d,hd,hne⟩:∃d:Dt,Sh K H' d bf/\eqD (.int (y:Int)) d=decide (¬ (y≠0/\par y=x)):=by
   by_cases c:x=0
   ·refine⟨.non,hb2 c,?_⟩
    rw[decide_eq_false (λz=>z (hyt.resolve_left λw=>w.1 c))]
    rfl
   ·refine⟨.int (par x:Int),hb1 c,?_⟩
    rw[dP]
    refine decide_eq_decide.mpr ⟨λe=>?_,λe=>?_⟩
    ·rintro⟨c1,c2⟩
     have u1:=(hg.up y hyn c1).2
     have u2:=(hg.up x hx c).2
     have e:y=par x:=by omega
     rw[c2] at u1
     rw[<- e] at u2
     omega
    ·rcases hyt with z | z
     ·rw[z.2]
     ·exact absurd z e
  refine⟨_,rfl,_,rfl, .int (y:Int),d,bc _,rfl,hd,_,rfl,?_⟩
  rw[hne]
  by_cases c:y≠0/\par y=x
  ·have e0:(if decide (y≠0/\par y=x)=true then[y] else[])=[y]:=if_pos (decide_eq_true c)
   rw[decide_eq_false (λz=>z c),e0]
   refine cD rfl ?_
   have up:=(hg.up y hyn c.1).2
   rw[c.2] at up
   refine⟨_,rfl, .inl ⟨rfl,_, .of hF2⟩,_,rfl,_,rfl,_,rfl,?_⟩
   cases m with
   |zero=>have:=hg.lt y hyn;omega
   |succ m=>
    refine⟨t,ys,n,L,par,rk,y, .int (x:Int),rfl,s2 _ _ ht,hr.same s2,hg,hz,n14,hyn,by omega,λ_=>by rw[c.2];rfl,λz=>absurd z c.1,λG H3 s3 hG0 hG=>?_⟩
    have hF3:=s3 _ _ hF2
    refine .inl ⟨F,G,_,_,rfl,rfl,hF3,hG,?_,?_⟩
    ·have l1:=aCd hg.toHw (m:=m+1) hyn (by omega)
     have l2:((((nbr n L x).take i).filter λy=>decide (y≠0/\par y=x)).flatMap (wk n par (m+1))).length<=(((nbr n L x).take i).filter λy=>decide (y≠0/\par y=x)).length*14:=zG λb hb=>by
      obtain⟨h1,h2⟩:=du.mp hb
      have h2:=of_decide_eq_true h2
      have hbn:=cf.mp (du.mp (uv h1)).1
      have u:=(hg.up b hbn h2.1).2
      rw[h2.2] at u
      exact cg (aCd hg.toHw hbn (by omega)) n14
     have z1:(((nbr n L x).take i).filter λy=>decide (y≠0/\par y=x)).length<=14:=by
      refine cg (j3 ..) ?_
      have:(nbr n L x).length<=n:=cg (j3 ..) (by rw[cz];exact ay _)
      rw[fg]
      omega
     rw[ai,ai,bq]
     exact cg (show _<=300 by omega) (by decide)
    ·refine⟨⟨_,rfl⟩,nxt (s2.trans s3) (λb o hb e=>by rw[aL hb];exact e),by rw[aL lF];exact s3 _ _ hl2,?_⟩
     rw[aD,<- bu]
     congr 3
     simp
  ·have e0:(if decide (y≠0/\par y=x)=true then[y] else[])=([]:List Nat):=if_neg (by rw[decide_eq_false c];exact bh)
   rw[decide_eq_true c,e0]
   refine cB rfl ⟨⟨_,rfl⟩,s2,hl2,?_⟩
   rw[List.flatMap_nil,ke]
   exact hF2
 ·subst es
  rw[ai,k7,aIh hg hx] at hF2
  exact⟨_,rfl,q F H' s2 hF hF2⟩
end
end K64
namespace K64.L
open PySem L2
def whD:Dt->Bool
 | .int _=>true
 |_=>false
def aHi:Dt->Bool
 | .tup ds=>ds.all whD
 |_=>false
inductive aHG (K : aa) (vs : List V) (H : Hp) (Q : VK) : Prop
 |mk (v : V) (d : Dt) (h0 : vs = [v]) (h1 : Sh K H d v) (h2 : ∀H', Same H H' -> Q (.bl (whD d)) H') : aHG K vs H Q
def spW (K:aa):Sp:=λvs H Q _=>aHG K vs H Q
inductive aEX (K : aa) (vs : List V) (H : Hp) (Q : VK) : Prop
 |mk (v : V) (d : Dt) (h0 : vs = [v]) (h1 : Sh K H d v) (h2 : (∀ds, d = .tup ds -> ds.length <= 1000)) (h3 : ∀H', Same H H' -> Q (.bl (aHi d)) H') : aEX K vs H Q
def aKM (K:aa):Sp:=λvs H Q _=>aEX K vs H Q
theorem wY {α β:Type}(f:α->β)(e:α):∀ds:List α,(aw ds.length).flatMap (λi=>[f (ds.getD i e)])=ds.map f
 |[]=>rfl
 |d :: ds=>by
  rw[bq,kn,gu,uk,b8,<- wY f e ds]
  rfl
section
variable {K:aa}
theorem rd_whole:∀vs H Q E,spW K vs H Q E->pC K { nx:=λ_ H'=>Q .non H',rt:=Q } (start ["thing"] vs) H:=by
 intro vs H Q E h
 obtain⟨v,d,rfl,hS,q⟩:=h
 have q0:=q H (Same.refl _)
 refine⟨_,rfl,v,d,"int",rfl,by decide,hS,_,rfl,?_⟩
 by_cases hi:aGU d "int" = true
 ·rw[if_pos hi]
  refine⟨_,rfl,v,d,"bool",rfl,by decide,hS,_,rfl,?_⟩
  cases d <;> first | exact q0 | (exact absurd hi (by simp[aGU]))
 ·rw[if_neg hi]
  cases d <;> first | exact q0 | (exact absurd (by rfl) hi)
theorem rd_wholes:∀vs H Q E,aKM K vs H Q E->lD K (spW K) { nx:=λ_ H'=>Q .non H',rt:=Q } (start ["thing"] vs) H:=by
 intro vs H Q E h
 obtain⟨v,d,rfl,hS,hz,q⟩:=h
 refine⟨_,rfl,v,d,"tuple",rfl,by decide,hS,_,rfl,?_⟩
 by_cases hi:aGU d "tuple" = true
 ·rw[if_pos hi]
  cases d with
  |tup ds=>
   obtain⟨a,xs,rfl,ha,hL⟩:=id hS
   have hl:ds.length=xs.length:=hL.length
   refine⟨_,rfl,a,rfl, .inr ⟨⟨xs,ha⟩,λacc hacc=>?_⟩⟩
   refine cT [0] ((ds.map whD).map V.bl) hacc (by rw[ai,ai];exact cg (hz ds rfl) (by decide)) ?_ λσ' H' sm hl'=>⟨acc,ds.map whD,rfl, .inl (.of hl'),?_⟩
   ·refine Emits.cast (L:=(aw xs.length).flatMap λi=>[V.bl (whD (ds.getD i .non))]) ?_ (by rw[<- hl,wY (λd=>V.bl (whD d)),fj];rfl)
    refine aDD (by decide) (by show 0<1;decide) (λH' sx=>(bR hacc sx).tup ha) λi x σ1 H1 hx l1 ag1 s1 sx1 _=>?_
    refine eJ λQ hQ=>?_
    have hi':i<ds.length:=by rw[hl];exact(au.mp hx).1
    obtain⟨y,hy,sy⟩:=hL.get (j:=i) (d:=ds.getD i .non) (by rw[aj];simp[hi'])
    obtain rfl:y=x:=by rw[hx] at hy;cases hy;rfl
    exact⟨_,s1,y,_,rfl,sy.same (bR hacc sx1),hQ⟩
   ·have:=q H' sm
    rw[show aHi (.tup ds)=ds.all whD from rfl] at this
    rw[Bh]
    exact this
  |_=>exact absurd hi (by simp[aGU])
 ·rw[if_neg hi]
  have q0:=q H (Same.refl _)
  cases d <;> first | exact q0 | (exact absurd (by rfl) hi)
end
def intsOf:List Dt->List Int
 |[]=>[]
 | .int i :: ds=>i :: intsOf ds
 |_ :: ds=>0 :: intsOf ds
theorem aCL:∀{ds:List Dt},ds.all whD=true->ds=(intsOf ds).map Dt.int
 |[],_=>rfl
 |d :: ds,h=>by
  rw[qt,dv] at h
  cases d with
  |int i=>rw[intsOf,b8,<- aCL h.2]
  |_=>exact absurd h.1 (by simp[whD])
theorem fD:∀ns:List Int,oI (ns.map Dt.int)=0
 |[]=>rfl
 |n :: ns=>by rw[b8,oI,fD ns];rfl
theorem aFA (ns:List Int):dep (.tup (ns.map Dt.int))<=100:=by rw[dep,fD];decide
theorem wQ (ns:List Int):dep (.lst (ns.map Dt.int))<=100:=by rw[dep,fD];decide
theorem eQ:∀(ns ms:List Int),eqL (ns.map Dt.int) (ms.map Dt.int)=decide (ns=ms)
 |[],[]=>by unfold eqL;rfl
 |[],m :: ms=>by simp[eqL]
 |n :: ns,[]=>by simp[eqL]
 |n :: ns,m :: ms=>by
  rw[b8,b8,eqL,eQ ns ms,eqD]
  by_cases h:n=m <;> by_cases h':ns=ms <;> simp[h,h']
theorem aBW {ns ms ks:List Int}(p:ms.Perm ns)(s:ms.Pairwise (·<=·))(sk:ks.Pairwise (·<=·)):decide (ms=ks)=ns.isPerm ks:=by
 by_cases h:ns.Perm ks
 ·have e:ms=ks:=xw (le:=(·<=·)) (λa b _ _ h1 h2=>v5 h1 h2) s sk (p.trans h)
  rw[e,Ae.mpr h]
  simp
 ·have hn:ns.isPerm ks=false:=by
   cases hb:ns.isPerm ks with
   |false=>rfl
   |true=>exact absurd (Ae.mp hb) h
  rw[hn]
  exact decide_eq_false λe=>h (e ▸ p.symm)
def roD (n:Nat):Dt->Bool
 | .tup ds=>ds.all whD && (decide ((intsOf ds).take 1=[0]) && (intsOf ds).isPerm (pW 0 (n:Int)))
 |_=>false
inductive gK (K : aa) (vs : List V) (H : Hp) (Q : VK) : Prop
 |mk (ta : Addr) (rs : List V) (v : V) (d : Dt) (h0 : vs = [.ref ta, v]) (h1 : SqT K H ta rs) (h2 : rs.length <= 9) (h3 : Sh K H d v) (h4 : (∀ds, d = .tup ds -> ds.length < 64)) (h5 : ∀H', Same H H' -> Q (.bl (roD rs.length d)) H') : gK K vs H Q
def spRound (K:aa):Sp:=λvs H Q _=>gK K vs H Q
theorem zZ (lo hi:Int):(pW lo hi).Pairwise (·<=·):=by
 unfold pW
 rw[t9]
 exact List.Pairwise.imp (λh=>by omega) zb
section
variable {K:aa}
theorem rd_round:∀vs H Q E,spRound K vs H Q E->pP K (aKM K) { nx:=λ_ H'=>Q .non H',rt:=Q } (start ["table","thing"] vs) H:=by
 intro vs H Q E h
 obtain⟨ta,rs,v,d,rfl,hT,hr,hS,hz,q⟩:=h
 refine⟨_,rfl,v,d,rfl,hS,λds e=>cg (la (hz ds e)) (by decide),λH1 s1=>⟨_,rfl,?_⟩⟩
 cases hw:aHi d with
 |false=>
  refine aHN ?_
  have:=q H1 s1
  rw[show roD rs.length d=false by cases d <;> first | rfl | (simp only[roD];rw[show List.all _ whD=false from hw];rfl)] at this
  exact this
 |true=>
  refine aHa ?_
  cases d with
  |tup ds=>
   have hd:=aCL hw
   have hq:∀H',Same H H'->Q (.bl (decide ((intsOf ds).take 1=[0]) && (intsOf ds).isPerm (pW 0 (rs.length:Int)))) H':=λH' e=>by
    have:=q H' e
    rw[show roD rs.length (.tup ds)=(ds.all whD && _) from rfl,show ds.all whD=true from hw,vb] at this
    exact this
   have hl:(intsOf ds).length<64:=by
    have:=hz ds rfl
    rw[hd,ai] at this
    exact this
   generalize hns:intsOf ds=ns at *
   subst hd
   obtain⟨a,xs,rfl,ha,hL⟩:=id hS
   obtain rfl:=hL.of_ints
   refine⟨_,rfl,_,rfl, .inr ⟨a,_,rfl,s1.tup ha,λp H2 s2 hp=>?_⟩⟩
   have hc:rF (ns.map V.int) none (some 1)=(ns.take 1).map V.int:=by
    unfold rF
    rw[AX]
    show List.take (HT.sIx _ _ (some 1) - 0) (List.drop 0 _)=_
    rw[Au,Bi]
    cases ns <;> simp[HT.sIx]
   rw[hc] at hp
   refine⟨by decide,λp2 hp2=>⟨.tup ((ns.take 1).map Dt.int), .tup ([0].map Dt.int),aFA _,⟨p,_,rfl,(aG hp2 _).tup hp,ShL.ints _⟩,⟨p2,_,rfl, .of aD,ShL.ints _⟩,_,rfl,?_⟩⟩
   rw[show eqD (.tup ((ns.take 1).map Dt.int)) (.tup ([0].map Dt.int))=decide (ns.take 1=[0]) by rw[eqD];exact eQ _ _]
   have s3:Same H1 (upd H2 p2 (.tup ([0].map V.int))):=s2.trans (aG hp2 _)
   by_cases h0:ns.take 1=[0]
   ·rw[if_pos (decide_eq_true h0)]
    refine⟨_,rfl,a,ns,rfl, .inr (s3.tup (s1.tup ha)),hl,λms pm sm l hl2=>?_⟩
    have s4:=s3.trans (aG hl2 (.lst (ms.map V.int)))
    refine⟨_,rfl,ta,rs,rfl, .inr (s4.tup (s1.tup hT)),?_⟩
    refine .inl ⟨_,rfl,λpr hpr=>?_⟩
    have s5:=s4.trans (aG hpr (.rng 0 (rs.length:Int)))
    refine .inr ⟨pr,0,_,rfl,aD,⟨by omega,by omega,by omega,by omega,by omega⟩,λp4 hp4=>?_⟩
    have s6:=s5.trans (aG hp4 (.lst ((pW 0 (rs.length:Int)).map V.int)))
    refine⟨.lst (ms.map Dt.int), .lst ((pW 0 (rs.length:Int)).map Dt.int),wQ _,⟨l,_,rfl, .of ?_,ShL.ints _⟩,⟨p4,_,rfl, .of aD,ShL.ints _⟩,?_⟩
    ·exact(aG hp4 _) _ _ ((aG hpr _) _ _ aD)
    ·rw[show eqD (.lst (ms.map Dt.int)) (.lst ((pW 0 (rs.length:Int)).map Dt.int))=decide (ms=pW 0 (rs.length:Int)) by rw[eqD];exact eQ _ _,aBW pm sm (zZ _ _)]
     have:=hq _ (s1.trans s6)
     rw[decide_eq_true h0,vb] at this
     exact this
   ·rw[if_neg (by rw[decide_eq_false h0];exact bh)]
    have:=hq _ (s1.trans s3)
    rw[decide_eq_false h0,ua] at this
    exact this
  |_=>exact absurd hw (by simp[aHi])
end
end K64.L
namespace L2
open PySem
theorem aDj {K:aa}{vars:List Nat}{tb:TS}{acc l1 l2:Addr}{b1 b2:Bool}{σ:St}{H:Hp}{xs ys:List V}{j k:Nat}{L:Nat->List V}(hj:j∈vars)(hk:k∈vars)(hjk:k≠j)(hjl:j<σ.length)(hkl:k<σ.length)(hlen:ys.length=xs.length)(hs:∀H',SameX acc H H'->SqB b1 K H' l1 xs/\SqB b2 K H' l2 ys)
  (h:∀i x y σ' H',xs[i]?=some x->ys[i]?=some y->σ'.length=σ.length->Agree vars σ σ'->σ'[j]?=some (some x)->σ'[k]?=some (some y)->SameX acc H H'->(∃pre,H' acc=some (.lst pre))->Emits vars tb acc σ' H' (L i)) :
  Emits vars (eK (Itz K b1 b2 l1 l2) (tD K 2 (cK (aI j) (cK (aI k) vG))) tb) acc σ H ((aw xs.length).flatMap L):=by
 intro D pre ha hz hd
 refine aGL (K:=K) (xs:=xs) (ys:=ys) (D:=D) hlen (λi σ' H'=>i<=xs.length/\σ'.length=σ.length/\Agree vars σ σ'/\SameX acc H H'/\H' acc=some (.lst (pre++(aw i).flatMap L))) ⟨bc _,rfl,Agree.refl _ _,SameX.refl _ _,by simpa using ha⟩ (λi σ1 H1 _ ⟨_,_,_,sx1,_⟩=>hs H1 sx1) (λi x y σ1 H1 p hx hy hp ⟨_,hl1,ag1,sx1,e1⟩=>?_) λσ1 H1 ⟨_,hl1,ag1,sx1,e1⟩=>hd σ1 H1 hl1 ag1 sx1 e1
 have hi:i<xs.length:=(au.mp hx).1
 have hle:=bX L (show i+1<=xs.length from hi)
 rw[aO,ao] at hle
 have sp:Same H1 (upd H1 p (.tup [x,y])):=aG hp _
 have e2:=sp _ _ e1
 refine⟨p,[x,y],rfl, .of aD,rfl,x,[y],rfl,y,[],rfl,rfl,?_⟩
 have ag2:Agree vars σ ((σ1.set j (some x)).set k (some y)):=(ag1.trans (Agree.set hj _)).trans (Agree.set hk _)
 refine h i x y ((σ1.set j (some x)).set k (some y)) (upd H1 p (.tup [x,y])) hx hy (by rw[dg,dg];exact hl1) ag2 ?_ (eW (by rw[dg];omega)) (sx1.trans sp.x) ⟨_,e2⟩ _ _ e2 (by rw[ao];omega) λσ' H' hl ag sx h2=>⟨hi,(hl.trans (by rw[dg,dg])).trans hl1,ag2.trans ag,(sx1.trans sp.x).trans sx,by rw[h2,aO,iy]⟩
 rw[gv hjk]
 exact eW (by omega)
end L2
namespace K64.L
open PySem L2
def lenR (T:List (List Int)) (ps:List Nat):Int:=((aw ps.length).flatMap λi=>[at2 T (ps.getD i 0) ((ps.drop 1++ps.take 1).getD i 0)]).sum
def bW (p:Nat):V := .int (p:Int)
inductive pV (K : aa) (vs : List V) (H : Hp) (Q : VK) : Prop
 |mk (v : V) (b : Addr) (T : List (List Int)) (n : Nat) (ps : List Nat) (h0 : vs = [v, .ref b]) (h1 : Sh K H (gY T) v) (h2 : Quad T n) (h3 : n <= 9) (h4 : SqT K H b (ps.map bW)) (h5 : ps.length = n) (h6 : 1 <= n) (h7 : (∀p ∈ ps, p < n)) (h8 : ∀H', Same H H' -> Q (.int (lenR T ps)) H') : pV K vs H Q
def spLength (K:aa):Sp:=λvs H Q _=>pV K vs H Q
theorem aDY (ps:List Nat):rF (ps.map bW) (some 1) none=(ps.drop 1).map bW:=by
 unfold rF
 rw[show HT.sIx (ps.map bW).length 0 (some 1)=min 1 ps.length by rw[ai];rfl]
 cases ps with
 |nil=>rfl
 |cons p ps=>
  simp[HT.sIx]
  exact jr (by simp)
theorem aDU (ps:List Nat):rF (ps.map bW) none (some 1)=(ps.take 1).map bW:=by
 unfold rF
 cases ps with
 |nil=>rfl
 |cons p ps=>simp[HT.sIx]
section
variable {K:aa}
theorem rd_length:∀vs H Q E,spLength K vs H Q E->xJ K { nx:=λ_ H'=>Q .non H',rt:=Q } (start ["table","round_","followers"] vs) H:=by
 intro vs H Q E h
 obtain⟨v,b,T,n,ps,rfl,hS,hq,h9,hb,hl,h1,hlt,q⟩:=h
 refine⟨_,rfl,_,rfl, .inr ⟨b,_,rfl,hb,λp1 H1 s1 hp1=>?_⟩⟩
 rw[aDY] at hp1
 refine⟨_,rfl,_,rfl, .inr ⟨b,_,rfl,s1.tup hb,λp2 H2 s2 hp2=>?_⟩⟩
 rw[aDU] at hp2
 refine .inr ⟨p1,p2,_,_,rfl,rfl,s2.tup hp1,hp2,?_,λp3 H3 _ hp3 s3=>?_⟩
 ·rw[ai,ai,k6,fg]
  exact cg (show _<=20 by omega) (by decide)
 rw[<- bu] at hp3
 have sm:=(s1.trans s2).trans s3
 refine⟨_,rfl,_,rfl,b,p3,false,false,rfl,⟨_,sm.tup hb⟩,⟨_,hp3⟩,λacc hacc=>?_⟩
 have hln:((ps.drop 1++ps.take 1).map bW).length=(ps.map bW).length:=by
  rw[ai,ai,ao,k6,fg];omega
 have hfl:(ps.drop 1++ps.take 1).length=ps.length:=by rw[ao,k6,fg];omega
 refine cT [0,1] (((aw ps.length).flatMap λi=>[at2 T (ps.getD i 0) ((ps.drop 1++ps.take 1).getD i 0)]).map V.int) hacc ?_ ?_ λσ' H' s4 hl'=>⟨acc,_,rfl, .inl (.of hl'),q H' (sm.trans s4)⟩
 ·rw[ai]
  have:=bY (λi=>[at2 T (ps.getD i 0) ((ps.drop 1++ps.take 1).getD i 0)]) 1 ps.length λ_ _=>ay _
  omega
 ·refine Emits.cast (L:=(aw (ps.map bW).length).flatMap λi=>[V.int (at2 T (ps.getD i 0) ((ps.drop 1++ps.take 1).getD i 0))]) ?_ (by rw[ai];simp only[kZ,b8,qi])
  refine aDj (ys:=(ps.drop 1++ps.take 1).map bW) (by decide) (by decide) (by decide) (by show 0<3;decide) (by show 1<3;decide) hln (λH' sx=>⟨(bR hacc sx).tup (sm.tup hb),(bR hacc sx).tup hp3⟩) λi x y σ1 H1' hx hy l1 ag1 e1 e2 sx1 _=>?_
  have hi:i<ps.length:=by rw[<- ai (f:=bW)];exact(au.mp hx).1
  have ex:x = .int ((ps.getD i 0:Nat):Int):=by
   rw[az,ah hi] at hx
   rw[aj,ah hi]
   cases hx;rfl
  have ey:y = .int (((ps.drop 1++ps.take 1).getD i 0:Nat):Int):=by
   rw[az,ah (by rw[hfl];exact hi)] at hy
   rw[aj,ah (by rw[hfl];exact hi)]
   cases hy;rfl
  subst ex;subst ey
  have t2:σ1[2]?=some (some v):=(ag1 2 (by decide)).trans rfl
  refine eJ λQ hQ=>?_
  refine dL t2 e1 e2 (hS.same (sm.trans (bR hacc sx1))) hq ?_ ?_ (hQ H1' (Same.refl _))
  ·refine hlt _ ?_
   rw[aj,ah hi]
   exact dz hi
  ·have hm:(ps.drop 1++ps.take 1).getD i 0∈ps.drop 1++ps.take 1:=by
    rw[aj,ah (by rw[hfl];exact hi)]
    exact dz _
   rcases b9.mp hm with hm | hm
   ·exact hlt _ (o8 hm)
   ·exact hlt _ (uv hm)
end
end K64.L
namespace K64.S
open PySem L2
def ins (p:Nat):List Nat->List Nat
 |[]=>[p]
 |a :: l=>if p<a then p :: a :: l else a :: ins p l
theorem iZ {p:Nat}:∀{l:List Nat},(ins p l).Perm (l++[p])
 |[] => .refl _
 |a :: l=>by
  unfold ins
  split
  ·exact(List.perm_append_comm (l₁:=[p]) (l₂:=a :: l))
  ·exact(iZ (l:=l)).cons a
theorem kH {p x:Nat}{l:List Nat}:x∈ins p l↔x=p\/x∈l:=by
 rw[iZ.mem_iff,b9,bb];exact Or.comm
theorem wK {p:Nat}{l:List Nat}:(ins p l).length=l.length+1:=by rw[iZ.length_eq,ao];rfl
theorem aEr {p:Nat}:∀{l:List Nat},l.Pairwise (· < ·)->p∉l->(ins p l).Pairwise (· < ·)
 |[],_,_=>yk ..
 |a :: l,h,hp=>by
  unfold ins
  rw[jm] at h
  split
  ·rename_i c
   exact jm.mpr ⟨λb hb=>by
    rcases b6.mp hb with e | hb
    ·omega
    ·have:=h.1 b hb;omega,jm.mpr h⟩
  ·rename_i c
   have:a≠p:=λe=>hp (by rw[e];exact b7 ..)
   refine jm.mpr ⟨λb hb=>?_,aEr h.2 λq=>hp (ar _ q)⟩
   rcases kH.mp hb with e | hb
   ·omega
   ·exact h.1 b hb
def bJ:Nat->List (List Nat)
 |0=>[[0]]
 |k+1=>bJ k++(bJ k).map (· ++ [k+1])
def left (n:Nat) (s:List Nat):List Nat:=(aw n).filter λp=>!s.contains p
theorem jT {n p:Nat}{s:List Nat}:p∈left n s↔p<n/\p∉s:=by
 unfold left
 rw[du,cf]
 simp
def jO (s:List Nat):List Nat:=if s.tail.isEmpty=true then s else s.tail
def upB:List Nat->Bool
 |[]=>true
 |[_]=>true
 |a :: b :: l=>decide (a<b) && upB (b :: l)
theorem aIe:∀{l:List Nat},upB l=true->l.Pairwise (· < ·)
 |[],_ => .nil
 |[_],_=>yk ..
 |a :: b :: l,h=>by
  unfold upB at h
  rw[dv] at h
  have ih:=aIe h.2
  refine jm.mpr ⟨λc hc=>?_,ih⟩
  have h1:=of_decide_eq_true h.1
  rcases b6.mp hc with e | hc
  ·omega
  ·have:=(jm.mp ih).1 c hc;omega
def one (n:Nat) (s:List Nat) (rest:List (List Nat)):Bool:=
 upB s && (s.head? == some 0) && s.all (λp=>decide (p<n)) && (aw n).all (λp=>s.contains p || rest.contains (ins p s)) && ((s.length == n) == (left n s).isEmpty) && decide (s.length<=n) && !rest.contains s
def chk (n:Nat):List (List Nat)->Bool
 |[]=>true
 |s :: rest=>one n s rest && chk n rest
theorem aIN:∀k,k<8->chk (k+1) (bJ k)=true:=by decide+kernel
theorem aFk {n:Nat}:∀{P:List (List Nat)}{j:Nat}{s:List Nat},chk n P=true->P[j]?=some s->one n s (P.drop (j+1))=true
 |[],_,_,_,h=>by cases h
 |q :: P,0,s,c,h=>by
  unfold chk at c
  rw[dv] at c
  obtain rfl:q=s:=by simpa using h
  simpa using c.1
 |q :: P,j+1,s,c,h=>by
  unfold chk at c
  rw[dv] at c
  simpa using aFk (j:=j) c.2 (by simpa using h)
structure oZ (n:Nat)(s:List Nat)(rest:List (List Nat)):Prop where
 up:s.Pairwise (· < ·)
 zero:∃r,s=0 :: r
 lt:∀p∈s,p<n
 next:∀p,p<n->p∉s->ins p s∈rest
 full:s.length=n↔left n s=[]
 le:s.length<=n
 new:s∉rest
theorem aHu {n:Nat}{s:List Nat}{rest:List (List Nat)}(h:one n s rest=true):oZ n s rest:=by
 unfold one at h
 simp only[dv,Bool.not_eq_true',ja,decide_eq_true_eq,beq_iff_eq,Bool.or_eq_true,cf,List.contains_eq_mem] at h
 obtain⟨⟨⟨⟨⟨⟨h1,h2⟩,h3⟩,h4⟩,h5⟩,h6⟩,h7⟩:=h
 refine⟨aIe h1,?_,h3,λp hp hs=>(h4 p hp).resolve_left hs,?_,h6,of_decide_eq_false h7⟩
 ·cases s with
  |nil=>simp at h2
  |cons a r=>exact⟨r,by simpa using h2⟩
 ·rw[<- List.isEmpty_iff,<- h5]
  simp
theorem jY {n j:Nat}{s:List Nat}(h1:1<=n)(h8:n<=8)(h:(bJ (n - 1))[j]?=some s):oZ n s ((bJ (n - 1)).drop (j+1)):=by
 have c:=aIN (n - 1) (by omega)
 rw[show n - 1+1=n by omega] at c
 exact aHu (aFk c h)
theorem zD {n:Nat}{s:List Nat}{rest:List (List Nat)}(ok:oZ n s rest):(jO s).Nodup/\(∀l∈jO s,l∈s)/\((∃r,s=0 :: r)->(s=[0]/\jO s=[0])\/(∀l,l∈jO s↔l∈s/\l≠0)):=by
 obtain⟨r,rfl⟩:=ok.zero
 have nd:(0 :: r).Nodup:=ok.up.imp (λh=>df h)
 unfold jO
 cases r with
 |nil=>exact⟨by simp,by simp,λ_ => .inl ⟨rfl,by simp⟩⟩
 |cons a r=>
  have e:(0 :: a :: r).tail.isEmpty=false:=rfl
  rw[e]
  simp only[dq,if_false,List.tail_cons]
  refine⟨(de.mp nd).2,λl hl=>ar _ hl,λ_ => .inr λl=>⟨λh=>⟨ar _ h,λe=>?_⟩,λh=>?_⟩⟩
  ·subst e;exact(de.mp nd).1 h
  ·rcases b6.mp h.1 with e | h'
   ·exact absurd e h.2
   ·exact h'
abbrev Ky:=List Nat×Nat
def fG (s:List Nat):List Ky:=(jO s).map λl=>(s,l)
def eL (P:List (List Nat)):List Ky:=P.reverse.flatMap fG
def keys (n:Nat):List Ky:=eL (bJ (n - 1))
theorem gB {P:List (List Nat)}{k:Ky}:k∈eL P↔k.1∈P/\k.2∈jO k.1:=by
 unfold eL fG
 rw[jc]
 constructor
 ·rintro⟨s,hs,h⟩
  obtain⟨l,hl,rfl⟩:=bj.mp h
  exact⟨yy.mp hs,hl⟩
 ·rintro⟨h1,h2⟩
  exact⟨k.1,yy.mpr h1,bj.mpr ⟨k.2,h2,rfl⟩⟩
theorem aAs {s:List Nat}{P:List (List Nat)}:eL (s :: P)=eL P++fG s:=by
 unfold eL;rw[List.reverse_cons,qa];simp
theorem zJ {n:Nat}{s:List Nat}{rest:List (List Nat)}{p:Nat}(h1:1<=n)(h8:n<=8)(ok:oZ n s rest)(hr:∀q∈rest,q∈bJ (n - 1))(hp:p∈left n s):(ins p s,p)∈eL rest:=by
 obtain⟨hn,hs⟩:=jT.mp hp
 refine gB.mpr ⟨ok.next p hn hs,?_⟩
 obtain⟨j,hj⟩:=j4.mp (hr _ (ok.next p hn hs))
 have ok':=jY h1 h8 hj
 obtain⟨r,hr0⟩:=ok.zero
 have p0:p≠0:=λe=>hs (by rw[e,hr0];exact b7 ..)
 rcases(zD ok').2.2 ok'.zero with⟨e,_⟩ | h
 ·have:p∈[0]:=by rw[<- e];exact kH.mpr (.inl rfl)
  exact absurd (bb.mp this) p0
 ·exact(h p).mpr ⟨kH.mpr (.inl rfl),p0⟩
def aEd:List Int->Int
 |[]=>0
 |a :: l=>l.foldl min a
theorem nN:∀{l:List Int}{a:Int},(l.foldl min a)∈a :: l/\∀x∈a :: l,l.foldl min a<=x
 |[],a=>⟨b7 ..,λx hx=>by rw[bb.mp hx];exact nc _⟩
 |b :: l,a=>by
  obtain⟨h1,h2⟩:=nN (l:=l) (a:=min a b)
  rw[zk]
  refine⟨?_,λx hx=>?_⟩
  ·rcases b6.mp h1 with e | h
   ·rw[e]
    by_cases c:a<=b
    ·rw[Int.min_eq_left c];exact b7 ..
    ·rw[Int.min_eq_right (by omega)];exact ar _ (b7 ..)
   ·exact ar _ (ar _ h)
  ·have h0:=h2 (min a b) (b7 ..)
   have m1:min a b<=a:=Int.min_le_left a b
   have m2:min a b<=b:=Int.min_le_right a b
   rcases b6.mp hx with e | hx
   ·omega
   ·rcases b6.mp hx with e | hx
    ·omega
    ·exact h2 x (ar _ hx)
theorem xO {l:List Int}(h:l≠[]):aEd l∈l:=by
 cases l with
 |nil=>exact absurd rfl h
 |cons a l=>exact nN.1
theorem aBV {l:List Int}{x:Int}(h:x∈l):aEd l<=x:=by
 cases l with
 |nil=>cases h
 |cons a l=>exact nN.2 x h
theorem aAX {l:List Int}{x:Int}(h:x∈l)(hx:∀y∈l,x<=y):aEd l=x:=v5 (aBV h) (hx _ (xO (List.ne_nil_of_mem h)))
def R (t:Nat->Nat->Int) (n:Nat):Nat->List Nat->Nat->Int
 |0,_,l=>t l 0
 |m+1,s,l=>aEd ((left n s).map λp=>t l p+R t n m (ins p s) p)
def rest (t:Nat->Nat->Int) (n:Nat) (k:Ky):Int:=R t n (n - k.1.length) k.1 k.2
section
variable {t:Nat->Nat->Int}{n:Nat}
theorem sS {s:List Nat}{l:Nat}(h:s.length=n):rest t n (s,l)=t l 0:=by
 unfold rest;rw[show n - s.length=0 by omega];rfl
theorem uW {s:List Nat}{l:Nat}(h:s.length<n):rest t n (s,l)=aEd ((left n s).map λp=>t l p+rest t n (ins p s,p)):=by
 unfold rest
 obtain⟨m,hm⟩:∃m,n - s.length=m+1:=⟨n - s.length - 1,by omega⟩
 show R t n (n - s.length) s l=_
 rw[hm]
 show aEd _=_
 congr 1
 apply fe
 intro p _
 show _=t l p+R t n (n - (ins p s).length) (ins p s) p
 rw[wK,show n - (s.length+1)=m by omega]
end
section
variable {t t':Nat->Nat->Int}{n:Nat}
end
abbrev ic (s:List Nat):List Int:=s.map λp:Nat=>(p:Int)
theorem xE {s:List Nat}{p:Nat}:ic s++[(p:Int)]=ic (s++[p]):=by unfold ic;rw[bu];rfl
def kc (k:Ky):PKy:=(ic k.1,(k.2:Int))
theorem aIb {a b:List Nat}(h:ic a=ic b):a=b:=og (λx y e=>by exact Int.ofNat.inj e) |>.mp h
theorem aFl {a b:Ky}(h:kc a=kc b):a=b:=by
 unfold kc at h
 injection h with h1 h2
 exact yc (aIb h1) (by omega)
section
variable {K:aa}{vars:List Nat}{tb:TS}{acc:Addr}{σ:St}{H:Hp}
theorem aDt {ta:TA}{r:List Int}(hr:r.length<=100)(h:∀Q:List V->Hp->Prop,(∀H',Same H H'->Q (r.map V.int) H')->ta σ H Q):EmR K vars (cP (gX ta) acc) acc σ H [r]:=by
 intro D pre R ha hR hz hd
 refine h _ λH1 s1=>⟨by rw[ai];exact cg hr (by decide),λt ht=>?_⟩
 have st:=aG ht (.tup (r.map V.int))
 have ha':=st _ _ (s1 _ _ ha)
 refine⟨pre,ha',cw (show pre.length<=100000 by rw[hR.1];omega) (by decide),?_⟩
 exact hd σ _ _ rfl (Agree.refl _ _) ((s1.trans st).x.trans (SameX.put _)) aD (Rows.snoc (Rows.put (hR.same (s1.trans st)) ha') (dJ (.of aD) ha'))
theorem aDA {a:Addr}{xs:List V}{j:Nat}{L:Nat->List (List Int)}(hj:j∈vars)(hjl:j<σ.length)(hs:∀H',SameX acc H H'->SqL K H' a xs)
  (h:∀i x σ' H',xs[i]?=some x->σ'.length=σ.length->Agree vars σ σ'->σ'[j]?=some (some x)->SameX acc H H'->EmR K vars tb acc σ' H' (L i)) :
  EmR K vars (eK (Itl K a) (aI j) tb) acc σ H ((aw xs.length).flatMap L):=by
 intro D pre R ha hR hz hd
 refine gS (K:=K) (a:=a) (xs:=xs) (g:=aI j) (D:=D) (λi σ' H'=>i<=xs.length/\σ'.length=σ.length/\Agree vars σ σ'/\SameX acc H H'/\∃pre',H' acc=some (.lst pre')/\Rows K H' pre' (R++(aw i).flatMap L)) ⟨bc _,rfl,Agree.refl _ _,SameX.refl _ _,pre,ha,by simpa using hR⟩ (λi σ1 H1 _ ⟨_,_,_,sx,_⟩=>hs H1 sx) (λi x σ1 H1 hx ⟨_,hl1,ag1,sx1,pre1,h1,r1⟩=>?_) λσ1 H1 ⟨_,hl1,ag1,sx1,pre1,h1,r1⟩=>hd σ1 H1 pre1 hl1 ag1 sx1 h1 r1
 have hi:i<xs.length:=(au.mp hx).1
 have hle:=bX L (show i+1<=xs.length from hi)
 rw[aO,ao] at hle
 refine h i x (σ1.set j (some x)) H1 hx (by rw[dg];exact hl1) (ag1.trans (Agree.set hj _)) (eW (by omega)) sx1 _ pre1 _ h1 r1 (by rw[ao];omega) λσ' H' pre' hl ag sx h2 r2=>⟨hi,hl.trans ((dg ..).trans hl1),(ag1.trans (Agree.set hj _)).trans ag,sx1.trans sx,pre',h2,by rw[aO,<- iy];exact r2⟩
end
theorem aFy {α:Type}(c:Nat->Bool)(g:Nat->α)(n:Nat):((aw n).flatMap λi=>if c i=true then[g i] else[])=((aw n).filter c).map g:=by
 induction n with
 |zero=>rfl
 |succ n ih=>
  rw[aO,ot,rh,bu,ih]
  congr 1
  cases h:c n <;> simp[List.filter,h]
theorem rM {α β:Type}(l:List α)(g:α->β)(L:Nat->List β)(h:∀i x,l[i]?=some x->L i=[g x]):(aw l.length).flatMap L=l.map g:=by
 have key:∀k,k<=l.length->(aw k).flatMap L=(l.take k).map g:=λk=>by
  induction k with
  |zero=>intro _;rfl
  |succ k ih=>
   intro hk
   have e:l[k]?=some l[k]:=ah (by omega)
   rw[aO,ih (by omega),h k _ e,iz,e,bu]
   rfl
 rw[key _ (ay _),k7]
theorem aEF {p:Nat}:∀{s:List Nat},inV (.int (p:Int)) ((ic s).map V.int)=s.contains p
 |[]=>rfl
 |a :: s=>by
  show(eqV (.int (a:Int)) (.int (p:Int)) || inV (.int (p:Int)) ((ic s).map V.int))=_
  rw[aEF,List.contains_cons]
  congr 1
  show(decide ((a:Int)=(p:Int)):Bool)=(p == a)
  by_cases h:a=p
  ·subst h;simp
  ·rw[decide_eq_false (by omega),beq_eq_false_iff_ne.mpr (jh h)]
theorem aGI {s:List Nat}:((ic s).map V.int).all oP=true:=by
 rw[ja]
 intro x hx
 obtain⟨n,_,rfl⟩:=bj.mp hx
 rfl
section
variable {K:aa}
inductive wU (K : aa) (vs : List V) (H : Hp) (Q : VK) : Prop
 |mk (a : Addr) (s : List Nat) (p : Nat) (h0 : vs = [.ref a, .int (p : Int)]) (h1 : SqT K H a ((ic s).map V.int)) (h2 : s.Pairwise (· < ·)) (h3 : p ∉ s) (h4 : s ≠ []) (h5 : s.length <= 20) (h6 : ∀b H', Same H H' -> H' b = some (.tup ((ic (ins p s)).map V.int)) -> Q (.ref b) H') : wU K vs H Q
def aFp (K:aa):Sp:=λvs H Q _=>wU K vs H Q
theorem aJp {s:List Nat}(h:s.Pairwise (· < ·)):(ic s).Pairwise (·<=·):=t9.mpr (h.imp λq=>by omega)
theorem aCr {s:List Nat}{ms ns:List Int}(hp:ms.Perm ns)(hs:ms.Pairwise (·<=·))(hn:ns.Perm (ic s))(h:s.Pairwise (· < ·)):ms=ic s:=
 xw (le:=(·<=·)) (λa b _ _ h1 h2=>v5 h1 h2) hs (aJp h) (hp.trans hn)
theorem rd_join:∀vs H Q E,aFp K vs H Q E->yD K { nx:=λ_ H'=>Q .non H',rt:=Q } (start ["some","place"] vs) H:=by
 intro vs H Q E h
 obtain⟨a,s,p,rfl,ha,up,hp,hne,hl,q⟩:=h
 refine⟨_,rfl,_,rfl,by show 1<=ba;decide,λc hc=>?_⟩
 have s1:=aG hc (.tup [V.int (p:Int)])
 have hz:((ic s).map V.int).length=s.length:=by rw[ai,ai]
 refine .inr ⟨a,c,_,_,rfl,rfl,s1.tup ha, .of aD,by rw[hz];exact cg (show s.length+1<=21 by omega) (by decide),λr H2 _ hr s2=>?_⟩
 have e:(ic s).map V.int++[V.int (p:Int)]=(ic s++[(p:Int)]).map V.int:=by rw[bu];rfl
 rw[e] at hr
 refine⟨r,_,rfl, .inr hr,by rw[xE,ai,ao];show s.length+1<64;omega,λms h1 h2 l hl=>?_⟩
 obtain rfl:ms=ic (ins p s):=aCr h1 h2 (by rw[xE];exact(iZ.map _).symm) (aEr up hp)
 refine⟨l,_,rfl, .inl ⟨.of aD,λb hb=>?_⟩⟩
 exact q b _ (s1.trans (s2.trans ((aG hl _).trans (aG hb _)))) aD
inductive yL (K : aa) (vs : List V) (H : Hp) (Q : VK) : Prop
 |mk (v : V) (T : List (List Int)) (n : Nat) (a : Addr) (s : List Nat) (h0 : vs = [v, .ref a]) (h1 : Sh K H (gY T) v) (h2 : Quad T n) (h3 : n <= 9) (h4 : SqT K H a ((ic s).map V.int)) (h5 : ∀l H', Same H H' -> H' l = some (.lst ((ic (left n s)).map V.int)) -> Q (.ref l) H') : yL K vs H Q
def aEE (K:aa):Sp:=λvs H Q _=>yL K vs H Q
theorem rd_left:∀vs H Q E,aEE K vs H Q E->jN K { nx:=λ_ H'=>Q .non H',rt:=Q } (start ["table","some"] vs) H:=by
 intro vs H Q E h
 obtain⟨v,T,n,a,s,rfl,hT,qT,h9,ha,q⟩:=h
 obtain⟨ta,rs,rfl,hta,hrl,_⟩:=hT.tab
 have hrn:rs.length=n:=by rw[hrl,qT.len]
 refine⟨_,rfl,ta,rs,rfl, .inr hta,(n:Int),by rw[hrn],by omega,by omega,λl hl=>?_⟩
 rw[cx]
 refine cT [0] ((ic (left n s)).map V.int) hl ?_ (Emits.cast (gQ (L:=λi=>if(!s.contains i)=true then[bW i] else[]) (by decide) (by show 0<2;decide) λi σ1 H1 hi hl1 ag1 s1 sx1 _=>?_) ?_) λσ1 H1 sm h1=>q l H1 sm h1
 ·rw[ai,ai]
  have:=j3 (λp=>!s.contains p) (aw n)
  rw[cz] at this
  unfold left
  omega
 ·have s0:σ1[0]?=some (some (.int (i:Int))):=by rw[s1];simp
  have s2:σ1[1]?=some (some (.ref a)):=(ag1 1 (by decide)).trans rfl
  have ha1:=(bR hl sx1).tup ha
  refine qP (λ_ _=>trivial) (λQ hq=>⟨_,s0,_,s2,a,_,rfl, .inr ha1,rfl,aGI,_,rfl,?_⟩) λhc H2 e2=>eJ λQ hq=>⟨_,s0,hq _ (Same.refl _)⟩
  show Q (!inV (.int (i:Int)) ((ic s).map V.int)) H1
  rw[aEF]
  exact hq _ (Same.refl _)
 ·rw[aFy]
  unfold left ic bW
  rw[fj];rfl
def DPk (H:Hp) (d:Addr) (xs:PEs) (ep:Nat) (ks:List Ky) (f:Ky->Int):Prop:=DP H d xs ep/\xs.map (λx=>(x.1,x.2.2))=ks.map λk=>(kc k,V.int (f k))
theorem DP.same {H H':Hp}{d:Addr}{xs:PEs}{ep:Nat}(h:DP H d xs ep)(s:Same H H'):DP H' d xs ep:=⟨s _ _ h.1,λx hx=>let⟨b,e1,e2⟩:=h.2 x hx;⟨b,s _ _ e1,s _ _ e2⟩⟩
theorem DPk.same {H H':Hp}{d:Addr}{xs:PEs}{ep:Nat}{ks:List Ky}{f:Ky->Int}(h:DPk H d xs ep ks f)(s:Same H H'):DPk H' d xs ep ks f:=⟨DP.same h.1 s,h.2⟩
theorem aAZ {f:Ky->Int}{k:Ky}:∀{ks:List Ky}{xs:PEs},xs.map (λx=>(x.1,x.2.2))=ks.map (λk=>(kc k,V.int (f k)))->k∈ks->aAu xs (kc k)=some (.int (f k))
 |[],_,_,h=>by cases h
 |k' :: ks,[],e,_=>by cases e
 |k' :: ks,x :: xs,e,h=>by
  rw[b8,b8] at e
  injection e with e1 e2
  injection e1 with e3 e4
  unfold aAu
  rw[jl]
  by_cases hk:k'=k
  ·subst hk
   rw[decide_eq_true e3]
   show some x.2.2=_
   rw[e4]
  ·rw[decide_eq_false (λz=>hk (aFl (e3.symm.trans z)))]
   have:=aAZ (k:=k) e2 ((b6.mp h).resolve_left (jh hk))
   unfold aAu at this
   exact this
theorem aEV {f:Ky->Int}{k:Ky}:∀{ks:List Ky}{xs:PEs},xs.map (λx=>(x.1,x.2.2))=ks.map (λk=>(kc k,V.int (f k)))->k∉ks->aAu xs (kc k)=none
 |[],[],_,h=>rfl
 |[],_ :: _,e,_=>by cases e
 |k' :: ks,[],e,_=>by cases e
 |k' :: ks,x :: xs,e,h=>by
  rw[b8,b8] at e
  injection e with e1 e2
  injection e1 with e3 e4
  unfold aAu
  rw[jl,decide_eq_false (λz=>h (by rw[aFl (e3.symm.trans z)];exact b7 ..))]
  have:=aEV (k:=k) e2 λz=>h (ar _ z)
  unfold aAu at this
  exact this
structure Tb (K:aa)(H:Hp)(v:V)(T:List (List Int))(n:Nat):Prop where
 sh:Sh K H (gY T) v
 quad:Quad T n
 one:1<=n
 most:n<=8
theorem Tb.same {H H':Hp}{v:V}{T:List (List Int)}{n:Nat}(h:Tb K H v T n)(s:Same H H'):Tb K H' v T n:=⟨h.sh.same s,h.quad,h.one,h.most⟩
inductive aCz (K : aa) (vs : List V) (H : Hp) (Q : VK) : Prop
 |mk (v : V) (T : List (List Int)) (n : Nat) (d a : Addr) (xs : PEs) (ep : Nat) (ks : List Ky) (f : Ky -> Int) (s : List Nat) (l : Nat) (h0 : vs = [v, .ref d, .ref a, .int (l : Int)]) (h1 : Tb K H v T n) (h2 : DPk H d xs ep ks f) (h3 : SqT K H a ((ic s).map V.int)) (h4 : s.Pairwise (· < ·)) (h5 : s ≠ []) (h6 : s.length <= 20) (h7 : l < n) (h8 : (∀p ∈ left n s, (ins p s, p) ∈ ks)) (h9 : ∀r pre H', Same H H' -> H' r = some (.lst pre) -> Rows K H' pre ((left n s).map λp => [at2 T l p + f (ins p s, p), (p : Int)]) -> Q (.ref r) H') : aCz K vs H Q
def aGH (K:aa):Sp:=λvs H Q _=>aCz K vs H Q
theorem rd_onw:∀vs H Q E,aGH K vs H Q E->yC K (aFp K) (aEE K) { nx:=λ_ H'=>Q .non H',rt:=Q } (start ["table","rests","some","last"] vs) H:=by
 intro vs H Q E h
 obtain⟨v,T,n,d,a,xs,ep,ks,f,s,l,rfl,tb,dp,ha,up,hne,h20,hl,hks,q⟩:=h
 refine⟨_,rfl,_,rfl,v,T,n,a,s,rfl,tb.sh,tb.quad,by have:=tb.most;omega,ha,λc H1 s1 hc=>⟨c,rfl, .inl ⟨⟨_, .of hc⟩,λr hr=>?_⟩⟩⟩
 have lz:((ic (left n s)).map V.int).length=(left n s).length:=by rw[ai,ai]
 have ll:(left n s).length<=8:=by
  have:=j3 (λp=>!s.contains p) (aw n)
  rw[cz] at this
  have:=tb.most
  unfold left
  omega
 refine xS [0] _ hr (by rw[ai];omega) (EmR.cast (aDA (xs:=(ic (left n s)).map V.int) (L:=λi=>[[at2 T l ((left n s).getD i 0)+f (ins ((left n s).getD i 0) s,(left n s).getD i 0),(((left n s).getD i 0:Nat):Int)]]) (by decide) (by show 0<5;decide) (λH' sx=>(bR hr sx).seq (.of hc)) λi x σ1 H2 hx hl1 ag1 st sx=>?_) ?_) λσ1 H2 pre sm h2 h3=>q r pre H2 (s1.trans sm) h2 h3
 ·have sm:=s1.trans (bR hr sx)
  rw[fj,az] at hx
  obtain⟨p,hp,rfl⟩:=ip.mp hx
  have ep':(left n s).getD i 0=p:=by rw[aj,hp];rfl
  rw[ep']
  obtain⟨hpn,hps⟩:=jT.mp (cb hp)
  have z1:σ1[1]?=some (some v):=(ag1 1 (by decide)).trans rfl
  have z2:σ1[2]?=some (some (.int (l:Int))):=(ag1 2 (by decide)).trans rfl
  have z3:σ1[3]?=some (some (.ref d)):=(ag1 3 (by decide)).trans rfl
  have z4:σ1[4]?=some (some (.ref a)):=(ag1 4 (by decide)).trans rfl
  refine aDt (by show 2<=100;decide) λQ2 hq=>?_
  have tb2:=tb.same sm
  refine dL z1 z2 st tb2.sh tb2.quad hl hpn ?_
  refine⟨_,z3,_,z4,_,st,a,s,p,rfl,sm.tup ha,up,hps,hne,h20,λb H3 s3 hb=>?_⟩
  refine⟨_,st,by show 2<=ba;decide,λg hg=>?_⟩
  have s4:=aG hg (.tup [V.ref b,V.int (p:Int)])
  refine⟨d,g,xs,ep,kc (ins p s,p),_,rfl,rfl,(dp.same (sm.trans (s3.trans s4))).1,⟨b, .of aD, .of (s4 _ _ hb)⟩,aAZ dp.2 (hks p (cb hp)),?_⟩
  dsimp only[bK]
  exact⟨_,st,hq _ (s3.trans s4)⟩
 ·rw[lz]
  exact rM _ _ _ λi x hx=>by rw[aj,hx];rfl
end
def Tups (H:Hp) (pre:List V) (P:List (List Nat)):Prop:=pre.length=P.length/\∀(i:Nat) (s:List Nat),P[i]?=some s->∃b,pre[i]?=some (.ref b)/\H b=some (.tup ((ic s).map V.int))
theorem Tups.same {H H':Hp}{pre:List V}{P:List (List Nat)}(h:Tups H pre P)(s:Same H H'):Tups H' pre P:=⟨h.1,λi q e=>let⟨b,e1,e2⟩:=h.2 i q e;⟨b,e1,s _ _ e2⟩⟩
theorem Tups.x {H H':Hp}{pre:List V}{P:List (List Nat)}{d:Addr}{o:HO}(h:Tups H pre P)(hd:H d=some o)(ho:∀xs,o ≠ .tup xs)(s:SameX d H H'):Tups H' pre P:=
 ⟨h.1,λi q e=>let⟨b,e1,e2⟩:=h.2 i q e;⟨b,e1,s _ _ (λz=>by subst z;rw[hd] at e2;exact ho _ (da e2)) e2⟩⟩
theorem Tups.nil {H:Hp}:Tups H [] []:=⟨rfl,λi s e=>by cases e⟩
theorem qQ {α:Type}{l m:List α}{i:Nat}{x:α}(h:(l++m)[i]?=some x):(i<l.length/\l[i]?=some x)\/(l.length<=i/\m[i - l.length]?=some x):=by
 by_cases hi:i<l.length
 ·exact .inl ⟨hi,by rw[cm hi] at h;exact h⟩
 ·exact .inr ⟨by omega,by rw[dh (by omega)] at h;exact h⟩
theorem Tups.app {H:Hp}{pre pre':List V}{P P':List (List Nat)}(h:Tups H pre P)(h':Tups H pre' P'):Tups H (pre++pre') (P++P'):=by
 refine⟨by rw[ao,ao,h.1,h'.1],λi s e=>?_⟩
 rcases qQ e with⟨hi,e⟩ | ⟨hi,e⟩
 ·obtain⟨b,e1,e2⟩:=h.2 i s e
  exact⟨b,by rw[cm (by rw[h.1];exact hi)];exact e1,e2⟩
 ·obtain⟨b,e1,e2⟩:=h'.2 _ s e
  exact⟨b,by rw[dh (by rw[h.1];exact hi),h.1];exact e1,e2⟩
theorem Tups.one {H:Hp}{b:Addr}{s:List Nat}(h:H b=some (.tup ((ic s).map V.int))):Tups H [.ref b] [s]:=⟨rfl,λi q e=>by
 match i,e with
 |0,e=>
  obtain rfl:s=q:=by simpa using e
  exact⟨b,rfl,h⟩⟩
theorem sQ:∀k,(bJ k).length=2 ^ k
 |0=>rfl
 |k+1=>by
  show(bJ k++(bJ k).map (· ++ [k+1])).length=_
  rw[ao,ai,sQ k,Nat.pow_succ];omega
theorem yU {k:Nat}(h:k<8):(bJ k).length<=128:=by
 rw[sQ]
 exact cg (uw (by decide) (show k<=7 by omega)) (by decide)
theorem dP {i j:Int}:eqD (.int i) (.int j)=decide (i=j):=by rw[eqD];rfl
section
variable {K:aa}
theorem yJ {H H':Hp}{p:Addr}{o:HO}(h:H p=none)(s:Same H H'):Same H (upd H' p o):=λb u e=>by rw[aL (aK e h)];exact s _ _ e
theorem aFD {H H':Hp}{a b p:Addr}{xs ys:List V}(hx:xs≠[])(hy:ys≠[])(h:(p=a/\H'=H/\ys=[])\/(p=b/\H'=H/\xs=[])\/(H p=none/\H'=upd H p (.tup (xs++ys)))):H' p=some (.tup (xs++ys)):=by
 rcases h with⟨_,_,e⟩ | ⟨_,_,e⟩ | ⟨_,e⟩
 ·exact absurd e hy
 ·exact absurd e hx
 ·rw[e];exact aD
inductive uD (vs : List V) (H : Hp) (Q : VK) : Prop
 |mk (n : Nat) (h0 : vs = [.int (n : Int)]) (h1 : 1 <= n) (h2 : n <= 8) (h3 : ∀l pre H', Same H H' -> H' l = some (.lst pre) -> Tups H' pre (bJ (n - 1)) -> Q (.ref l) H') : uD vs H Q
def aCA:Sp:=λvs H Q _=>uD vs H Q
theorem rd_parts:∀vs H Q E,aCA vs H Q E->fE K { nx:=λ_ H'=>Q .non H',rt:=Q } (start ["many","parts","place"] vs) H:=by
 intro vs H Q E h
 obtain⟨n,rfl,h1,h8,q⟩:=h
 refine⟨by show 1<=ba;decide,λc hc=>⟨by show 1<=ba;decide,λl hl=>?_⟩⟩
 have s0:=(aG hc (.tup [V.int 0])).trans (aG hl (.lst [.ref c]))
 have hl0:upd (upd H c (.tup [V.int 0])) l (.lst [.ref c]) l=some (.lst [.ref c]):=aD
 have t0:Tups (upd (upd H c (.tup [V.int 0])) l (.lst [.ref c])) [.ref c] (bJ 0):=Tups.one ((aG hl _) _ _ aD)
 show aT _ _ _ _ (upd (upd H c (.tup [V.int 0])) l (.lst [.ref c]))
 generalize upd (upd H c (.tup [V.int 0])) l (.lst [.ref c])=H0 at s0 hl0 t0 ⊢
 refine⟨_,rfl,1,(n:Int),rfl,⟨by omega,by omega,by omega,by omega⟩,?_⟩
 rw[show((n:Int) - 1).toNat=n - 1 by omega]
 refine bP (lo:=1) (n:=n - 1) (λi σ' H'=>∃l pre x,σ'=[some (.int (n:Int)),some (.ref l),x]/\H' l=some (.lst pre)/\Tups H' pre (bJ i)/\Same H H') ⟨l,_,none,rfl,hl0,t0,s0⟩ (λi σ1 H1 hi ⟨l,pre,x,e1,hl,ht,s1⟩=>?_) λσ1 H1 ⟨l,pre,x,e1,hl,ht,s1⟩=>?_
 ·subst e1
  have hi8:i<8:=by omega
  refine⟨_,rfl,_,rfl,l,rfl, .inl ⟨⟨_, .of hl⟩,λacc ha=>?_⟩⟩
  refine yH (vars:=[0]) (xs:=pre) (λi' L H'=>Tups H' L (((bJ i).take i').map (· ++ [i+1]))) (by decide) (by show 0<2;decide) Tups.nil ha (λi' L H' sm _ => .of (sm _ _ hl)) (λi' y σ2 H2 L D hy hl2 ag2 st2 sm2 ha2 r2 hD=>?_) λσ2 H2 L sm2 ha2 r2=>?_
  ·have hi':i'<(bJ i).length:=by rw[<- ht.1];exact(au.mp hy).1
   obtain⟨b,e1,e2⟩:=ht.2 i' _ (ah hi')
   rw[hy] at e1
   cases e1
   have hb:=sm2 _ _ e2
   have ok:oZ (i+1) ((bJ i)[i']) _:=jY (n:=i+1) (j:=i') (by omega) (by omega) (ah hi')
   obtain⟨r,hr⟩:=ok.zero
   have hle:=ok.le
   have es:(bJ i)[i']?=some ((bJ i)[i']):=ah hi'
   generalize (bJ i)[i']=s at hb hr es hle
   have z1:σ2[1]?=some (some (.int (1+(i:Int)))):=(ag2 1 (by decide)).trans rfl
   have hn:(ic s).map V.int≠[]:=by rw[hr];simp
   refine⟨_,st2,_,z1,by show 1<=ba;decide,λc hc => .inr ⟨b,c,_,_,rfl,rfl, .of ((aG hc _) _ _ hb), .of aD,?_,λp H3 hcase _ s3=>?_⟩⟩
   ·rw[ai,ai];exact cg (show s.length+1<=10 by omega) (by decide)
   have hp:=aFD hn (by simp) hcase
   have sm3:=(aG hc (.tup [V.int (1+(i:Int))])).trans s3
   have ha3:=sm3 _ _ ha2
   refine⟨L,ha3,?_,?_⟩
   ·rw[r2.1,ai,fg]
    have:=yU hi8
    exact cw (show min i' (bJ i).length<=128 by omega) (by decide)
   have e2:(ic s).map V.int++[V.int (1+(i:Int))]=(ic (s++[i+1])).map V.int:=by
    rw[<- xE,bu]
    show _++[V.int (1+(i:Int))]=_++[V.int ((i+1:Nat):Int)]
    rw[show(1:Int)+(i:Int)=((i+1:Nat):Int) by omega]
   rw[e2] at hp
   refine hD _ _ _ hl2 ag2 (yJ ha (sm2.trans sm3)) aD ?_
   have tt:Tups H3 (L++[.ref p]) ((((bJ i).take (i'+1)).map (· ++ [i+1]))):=by
    rw[iz,es,bu]
    exact(r2.same sm3).app (Tups.one hp)
   exact tt.x ha3 (λ_ z=>by cases z) (SameX.put _)
  ·have hl2:=sm2 _ _ hl
   have hz:(bJ i).length<=128:=yU hi8
   rw[ht.1,k7] at r2
   refine .inl ⟨l,acc,pre,L,rfl,rfl,hl2,ha2,?_,λp hp=>?_⟩
   ·rw[ht.1,r2.1,ai]
    exact cg (show(bJ i).length+(bJ i).length<=256 by omega) (by decide)
   ·exact⟨p,_,_,rfl,aD,((ht.same sm2).app r2).same (aG hp _),s1.trans (sm2.trans (aG hp _))⟩
 ·subst e1
  exact⟨_,rfl,q l pre H1 s1 hl ht⟩
end
theorem zI {a b:Int}{r q:List Int}(h:dA (a :: r) (b :: q)=false):b<=a:=by
 unfold dA at h
 by_cases e:a=b
 ·omega
 ·rw[if_neg e] at h
  have:=of_decide_eq_false h
  omega
theorem pR:∀k,k<8->(eL (bJ k)).length<=1000:=by decide+kernel
theorem aCU {A B:List (List Nat)}:eL (A++B)=eL B++eL A:=by unfold eL;rw[AO,qa]
theorem zX {P:List (List Nat)}{m:Nat}:(eL (P.drop m)).length<=(eL P).length:=by
 have e:eL P=eL (P.drop m)++eL (P.take m):=by rw[<- aCU,List.take_append_drop]
 rw[e,ao];omega
section
variable {K:aa}
theorem vY {H H':Hp}{a d:Addr}{xs:List V}{o:HO}(h:SqT K H a xs)(hd:H d=some o)(h1:∀ys,o ≠ .tup ys)(h2:∀q u,o ≠ .frz q u)(s:SameX d H H'):SqT K H' a xs:=by
 rcases h with(h | ⟨u,h⟩) | h
 ·exact .inl (.inl (s _ _ (λz=>by subst z;rw[hd] at h;exact h1 _ (da h)) h))
 ·exact .inl (.inr ⟨u,s _ _ (λz=>by subst z;rw[hd] at h;exact h2 _ _ (da h)) h⟩)
 ·exact .inr h
theorem DPk.len {H:Hp}{d:Addr}{xs:PEs}{ep:Nat}{ks:List Ky}{f:Ky->Int}(h:DPk H d xs ep ks f):xs.length=ks.length:=by
 have:=congrArg AB h.2
 rw[ai,ai] at this
 exact this
theorem DPk.put {H:Hp}{d g:Addr}{xs:PEs}{ep ep':Nat}{ks:List Ky}{f:Ky->Int}{k:Ky}(h:DPk H d xs ep ks f)(hk:KeyP H (kc k) g):DPk (upd H d (dpO d (xs++[(kc k,g,V.int (f k))]) ep')) d (xs++[(kc k,g,V.int (f k))]) ep' (ks++[k]) f:=by
 refine⟨⟨aD,λx hx=>?_⟩,?_⟩
 ·have hx':KeyP H x.1 x.2.1:=by
   rcases b9.mp hx with hx | hx
   ·exact h.1.2 x hx
   ·rw[bb.mp hx];exact hk
  obtain⟨b,e1,e2⟩:=hx'
  exact⟨b,by rw[aL (λz=>by rw[z,h.1.1] at e1;cases e1)];exact e1,by rw[aL (λz=>by rw[z,h.1.1] at e2;cases e2)];exact e2⟩
 ·rw[bu,bu,h.2];rfl
theorem aEh {H:Hp}{s:List Nat}{p a:Addr}{σ:St}{Q:VK}(hp:SqT K H p ((ic s.tail).map V.int))(ha:SqT K H a ((ic s).map V.int))(hs:σ[2]?=some (some (.ref a)))(q:∀z,SqT K H z ((ic (jO s)).map V.int)->Q (.ref z) H) :
  ∃c,aHt K (.ref p) H c/\if c=true then Q (.ref p) H else aF 2 σ H Q:=by
 refine⟨!((ic s.tail).map V.int).isEmpty, .inr (.inl ⟨_,hp,rfl⟩),?_⟩
 have e:((ic s.tail).map V.int).isEmpty=s.tail.isEmpty:=by cases s.tail <;> rfl
 rw[e]
 cases h:s.tail.isEmpty with
 |true=>exact aHa ⟨_,hs,q a (by unfold jO;rw[h];exact ha)⟩
 |false=>exact aHN (q p (by unfold jO;rw[h];exact hp))
inductive uK (K : aa) (vs : List V) (H : Hp) (Q : VK) : Prop
 |mk (v : V) (T : List (List Int)) (n : Nat) (h0 : vs = [v]) (h1 : Tb K H v T n) (h2 : ∀d xs ep H', Same H H' -> DPk H' d xs ep (keys n) (rest (at2 T) n) -> Q (.ref d) H') : uK K vs H Q
def aCF (K:aa):Sp:=λvs H Q _=>uK K vs H Q
theorem rd_rests:∀vs H Q E,aCF K vs H Q E->jR K (aGH K) aCA { nx:=λ_ H'=>Q .non H',rt:=Q } (start ["table","rests","some","last"] vs) H:=by
 intro vs H Q E h
 obtain⟨v,T,n,rfl,tb,q⟩:=h
 intro d ep0 hd
 have sd:=aG hd (dpO d [] ep0)
 have hd0:upd H d (dpO d [] ep0) d=some (dpO d [] ep0):=aD
 show aT _ _ _ _ (upd H d (dpO d [] ep0))
 generalize upd H d (dpO d [] ep0)=H0 at sd hd0 ⊢
 have tb0:=tb.same sd
 obtain⟨ta,rs,ev,hta,hrl,_⟩:=tb0.sh.tab
 subst ev
 have hrn:rs.length=n:=by rw[hrl,tb.quad.len]
 have h1:=tb.one
 have h8:=tb.most
 refine⟨_,rfl,ta,rs,rfl, .inr hta,n,by rw[hrn];rfl,h1,h8,λpa pre H1 s1 hpa tps=>⟨pa,pre,rfl, .of hpa,?_⟩⟩
 have hd1:=s1 _ _ hd0
 have hN:pre.length=(bJ (n - 1)).length:=tps.1
 have s01:=sd.trans s1
 have up1:∀{H':Hp},SameX d H1 H'->Same H H':=λsx b u e=>sx b u (aK e hd) (s01 b u e)
 refine aFG (xs:=pre) rfl (λi σ' H'=>i<=(bJ (n - 1)).length/\∃xs ep x2 x3,σ'=[some (.ref ta),some (.ref d),x2,x3]/\DPk H' d xs ep (eL ((bJ (n - 1)).drop ((bJ (n - 1)).length - i))) (rest (at2 T) n)/\SameX d H1 H') ⟨bc _,[],ep0,none,none,rfl,⟨⟨hd1,λx hx=>by cases hx⟩,by rw[Bi,List.drop_length];rfl⟩,SameX.refl _ _⟩ (λi σ1 H2 _ ⟨_,xs,ep,x2,x3,_,_,sx⟩ => .of (sx _ _ (λz=>by subst z;rw[hpa] at hd1;cases hd1) hpa)) ?_ ?_
 ·rintro i y σ1 H2 hi hy ⟨_,xs,ep,x2,x3,rfl,dp,sx⟩
  have hi:i<(bJ (n - 1)).length:=by omega
  have hj:(bJ (n - 1)).length - 1 - i<(bJ (n - 1)).length:=by omega
  have hps:(bJ (n - 1))[(bJ (n - 1)).length - 1 - i]?=some ((bJ (n - 1))[(bJ (n - 1)).length - 1 - i]):=ah hj
  obtain⟨b,e1,e2⟩:=tps.2 _ _ hps
  rw[hN,e1] at hy
  cases hy
  have ok:=jY h1 h8 hps
  have edr:(bJ (n - 1)).drop ((bJ (n - 1)).length - (i+1))=(bJ (n - 1))[(bJ (n - 1)).length - 1 - i] :: (bJ (n - 1)).drop ((bJ (n - 1)).length - i):=by
   rw[show(bJ (n - 1)).length - (i+1)=(bJ (n - 1)).length - 1 - i by omega,List.drop_eq_getElem_cons hj,show(bJ (n - 1)).length - 1 - i+1=(bJ (n - 1)).length - i by omega]
  rw[show(bJ (n - 1)).length - 1 - i+1=(bJ (n - 1)).length - i by omega] at ok
  have hsm:=zX (P:=bJ (n - 1)) (m:=(bJ (n - 1)).length - (i+1))
  have hk8:=pR (n - 1) (by omega)
  rw[edr] at hsm ⊢
  have hrest:∀q∈(bJ (n - 1)).drop ((bJ (n - 1)).length - i),q∈bJ (n - 1):=λq hq=>o8 hq
  generalize (bJ (n - 1))[(bJ (n - 1)).length - 1 - i]=s at e2 ok hsm ⊢
  generalize (bJ (n - 1)).drop ((bJ (n - 1)).length - i)=rst at dp ok hsm hrest ⊢
  rw[aAs] at hsm ⊢
  obtain⟨lnd,lin,_⟩:=zD ok
  have hbd:b≠d:=λz=>by subst z;rw[e2] at hd1;cases hd1
  have hb2:=sx _ _ hbd e2
  refine⟨_,rfl,1,rfl, .inr ⟨b,_,rfl, .of hb2,λp H3 s3 hp=>?_⟩⟩
  have hp':SqT K H3 p ((ic s.tail).map V.int):=by
   have e:=aDW (xs:=(ic s).map V.int) (t:=1) (by obtain⟨r,rfl⟩:=ok.zero;simp)
   rw[show((1:Nat):Int)=1 from rfl] at e
   rw[e] at hp
   have e2:((ic s).map V.int).drop 1=(ic s.tail).map V.int:=by cases s <;> rfl
   rw[e2] at hp
   exact hp
  have hb3:=s3 _ _ hb2
  have dp3:=dp.same s3
  have hd3:=dp3.1.1
  refine aEh hp' (.of hb3) rfl λz hz=>⟨z,rfl, .inr ⟨⟨_,hz⟩,?_⟩⟩
  have lz:((ic (jO s)).map V.int).length=(jO s).length:=by rw[ai,ai]
  refine kA (K:=K) (a:=z) (xs:=(ic (jO s)).map V.int) (λj σ' H'=>∃xs ep x3,σ'=[some (.ref ta),some (.ref d),some (.ref b),x3]/\DPk H' d xs ep (eL rst++(fG s).take j) (rest (at2 T) n)/\SameX d H3 H') ⟨xs,ep,x3,rfl,by rw[List.take_zero,ke];exact dp3,SameX.refl _ _⟩ (λj σ' H' _ ⟨_,_,_,_,_,sx'⟩=>vY hz hd3 (λ_ z=>by cases z) (λ_ _ z=>by cases z) sx') ?_ ?_
  ·rintro j y σ2 H4 hy ⟨xs,ep,x3,rfl,dp4,sx4⟩
   rw[fj,az] at hy
   obtain⟨l,hl,rfl⟩:=ip.mp hy
   have hlm:=cb hl
   have hln:l<n:=ok.lt l (lin l hlm)
   have hb4:=sx4 _ _ hbd hb3
   have sxx:SameX d H1 H4:=(sx.trans s3.x).trans sx4
   have sm4:=up1 sxx
   have tb4:=tb.same sm4
   obtain⟨ta',rs',ev,hta4,hrl4,_⟩:=tb4.sh.tab
   cases ev
   have hrn4:rs'.length=n:=by rw[hrl4,tb.quad.len]
   have hkl:(fG s)[j]?=some (s,l):=by unfold fG;rw[az,hl];rfl
   have hknew:(s,l)∉eL rst++(fG s).take j:=by
    rw[b9]
    rintro(hm | hm)
    ·exact ok.new (gB.mp hm).1
    ·unfold fG at hm
     rw[<- AX] at hm
     obtain⟨l',hl',e⟩:=bj.mp hm
     have e:l'=l:=(v3 e).2
     subst e
     obtain⟨m,hm'⟩:=j4.mp hl'
     rw[List.getElem?_take] at hm'
     split at hm'
     ·rename_i hlt
      have hjl:=(au.mp hl)
      have hml:=(au.mp hm')
      have:=(ym lnd).mp (hml.2.trans hjl.2.symm)
      omega
     ·cases hm'
   have hxl:xs.length<ba:=by
    rw[dp4.len,ao,fg]
    rw[ao] at hsm
    exact cw (show(eL rst).length+min j (fG s).length<=1000 by omega) (by decide)
   have fin:∀(g:Addr) (H5:Hp),Same H4 H5->H5 g=none->∀D:hU,(∀σ' H',(∃xs ep x3,σ'=[some (V.ref ta),some (.ref d),some (.ref b),x3]/\DPk H' d xs ep (eL rst++(fG s).take (j+1)) (rest (at2 T) n)/\SameX d H3 H')->D.nx σ' H') ->
     ∃a c xs ep k,V.ref d=V.ref a/\V.ref g=V.ref c/\DP (upd H5 g (.tup [.ref b, .int (l:Int)])) a xs ep/\KeyP (upd H5 g (.tup [.ref b, .int (l:Int)])) k c/\aAu xs k=none/\xs.length<ba/\∀ep',D.nx [some (V.ref ta),some (.ref d),some (.ref b),some (.int (l:Int))] (upd (upd H5 g (.tup [.ref b, .int (l:Int)])) a (dpO a (xs++[(k,c,V.int (rest (at2 T) n (s,l)))]) ep')):=λg H5 s5 hg D hD=>by
    have s6:=aG hg (.tup [V.ref b, .int (l:Int)])
    have dp6:=(dp4.same s5).same s6
    have kp:KeyP (upd H5 g (.tup [.ref b, .int (l:Int)])) (kc (s,l)) g:=⟨b,aD,s6 _ _ (s5 _ _ hb4)⟩
    refine⟨d,g,xs,ep,kc (s,l),rfl,rfl,dp6.1,kp,aEV dp4.2 hknew,hxl,λep'=>hD _ _ ⟨xs++[(kc (s,l),g,V.int (rest (at2 T) n (s,l)))],ep',_,rfl,?_,(sx4.trans (s5.trans s6).x).trans (SameX.put _)⟩⟩
    have:=DPk.put (ep':=ep') dp6 kp
    rw[iy] at this
    rw[iz,hkl]
    exact this
   by_cases hf:s.length=n
   ·refine⟨_,rfl,b,_,rfl, .inr (.of hb4),_,rfl,ta,rs',rfl, .inr hta4, .int _, .int _,bc _,rfl,rfl,_,rfl,cD ?_ ?_⟩
    ·rw[dP,ai,ai,hrn4,hf];exact decide_eq_true rfl
    refine⟨_,rfl,_,rfl,rA tb4.sh tb.quad hln λc hc=>ixT (j:=0) hc (v := .int (at2 T l 0)) ?_ ?_⟩
    ·obtain⟨row,e1,e2,e3⟩:=tb.quad.get hln
     rw[az,L2.fQ (by rw[e3];omega)];rfl
    refine⟨_,rfl,_,rfl,_,rfl,by show 2<=ba;decide,λg hg=>?_⟩
    have:=fin g H4 (Same.refl _) hg
    rw[sS hf] at this
    exact this _ λσ' H' z=>z
   ·have hlt:s.length<n:=by have:=ok.le;omega
    refine⟨_,rfl,b,_,rfl, .inr (.of hb4),_,rfl,ta,rs',rfl, .inr hta4, .int _, .int _,bc _,rfl,rfl,_,rfl,cB ?_ ?_⟩
    ·rw[dP,ai,ai,hrn4];exact decide_eq_false (by omega)
    refine⟨_,rfl,_,rfl,_,rfl,_,rfl, .ref ta,T,n,d,b,xs,ep,_,_,s,l,rfl,tb4,dp4, .of hb4,ok.up,?_,by omega,hln,λp hp=>ck _ (zJ h1 h8 ok hrest hp),λr pre' H5 s5 hr rows=>?_⟩
    ·obtain⟨r,rfl⟩:=ok.zero;simp
    have hne:left n s≠[]:=λe=>hf (ok.full.mpr e)
    refine .inr ⟨r,pre',_,rfl, .inl (.of hr),rows,by simpa using hne,λi' c row hi1 hi2 hc hmin=>?_⟩
    rw[az] at hi2
    obtain⟨p,hp,rfl⟩:=ip.mp hi2
    have hval:at2 T l p+rest (at2 T) n (ins p s,p)=rest (at2 T) n (s,l):=by
     rw[uW hlt]
     refine(aAX (x:=at2 T l p+rest (at2 T) n (ins p s,p)) (bj.mpr ⟨p,cb hp,rfl⟩) λy hy=>?_).symm
     obtain⟨p',hp',rfl⟩:=bj.mp hy
     exact zI (hmin _ (bj.mpr ⟨p',hp',rfl⟩))
    rw[hval] at hc
    refine ixT (j:=0) hc rfl ?_
    exact⟨_,rfl,_,rfl,_,rfl,by show 2<=ba;decide,λg hg=>fin g H5 s5 hg _ λσ' H' z=>z⟩
  ·rintro σ2 H4 ⟨xs,ep,x3,rfl,dp4,sx4⟩
   refine⟨by omega,xs,ep,_,x3,rfl,?_,(sx.trans s3.x).trans sx4⟩
   have e:(fG s).take ((ic (jO s)).map V.int).length=fG s:=by
    rw[lz]
    exact jr (by unfold fG;rw[ai];exact ay _)
   rw[e] at dp4
   exact dp4
 ·rintro σ1 H2 ⟨_,xs,ep,x2,x3,rfl,dp,sx⟩
  refine⟨_,rfl,q d xs ep H2 (up1 sx) ?_⟩
  rw[hN,qm,Au] at dp
  exact dp
end
def pth (t:Nat->Nat->Int):List Nat->Int
 |[]=>0
 |[_]=>0
 |a :: b :: l=>t a b+pth t (b :: l)
theorem rD {t:Nat->Nat->Int}{p l:Nat}:∀{g:List Nat},pth t (g++[l]++[p])=pth t (g++[l])+t l p
 |[]=>by show t l p+0=0+t l p;omega
 |[a]=>by show t a l+(t l p+0)=t a l+0+t l p;omega
 |a :: b :: g=>by
  have:=rD (t:=t) (p:=p) (l:=l) (g:=b :: g)
  show t a b+pth t (b :: g++[l]++[p])=t a b+pth t (b :: g++[l])+t l p
  rw[this];omega
structure Round (n:Nat)(g:List Nat):Prop where
 perm:g.Perm (aw n)
 zero:∃r,g=0 :: r
theorem aBP {n:Nat}{s:List Nat}{rest:List (List Nat)}(ok:oZ n s rest)(h:s.length=n):s.Perm (aw n):=by
 refine(kr (ok.up.imp λh=>df h) iu).mpr λp=>⟨λhp=>cf.mpr (ok.lt p hp),λhp=>?_⟩
 refine ez λhn=>?_
 have:=jT.mpr ⟨cf.mp hp,hn⟩
 rw[ok.full.mp h] at this
 cases this
section
variable {K:aa}
theorem mW {n j p:Nat}{s:List Nat}(h1:1<=n)(h8:n<=8)(hj:(bJ (n - 1))[j]?=some s)(hp:p∈left n s):(ins p s,p)∈keys n/\∃j':Nat,(bJ (n - 1))[j']?=some (ins p s):=by
 have ok:=jY h1 h8 hj
 have:=zJ h1 h8 ok (λq hq=>o8 hq) hp
 obtain⟨m1,m2⟩:=gB.mp this
 have m3:ins p s∈bJ (n - 1):=o8 m1
 exact⟨gB.mpr ⟨m3,m2⟩,j4.mp m3⟩
inductive gK (K : aa) (vs : List V) (H : Hp) (Q : VK) : Prop
 |mk (v : V) (T : List (List Int)) (n : Nat) (d : Addr) (xs : PEs) (ep : Nat) (h0 : vs = [v, .ref d]) (h1 : Tb K H v T n) (h2 : DPk H d xs ep (keys n) (rest (at2 T) n)) (h3 : ∀b g H', Same H H' -> SqT K H' b ((ic g).map V.int) -> Round n g -> pth (at2 T) (g ++ [0]) = rest (at2 T) n ([0], 0) -> Q (.ref b) H') : gK K vs H Q
def spRound (K:aa):Sp:=λvs H Q _=>gK K vs H Q
theorem rd_round:∀vs H Q E,spRound K vs H Q E->fT K (aGH K) { nx:=λ_ H'=>Q .non H',rt:=Q } (start ["table","rests","gone","some"] vs) H:=by
 intro vs H Q E h
 obtain⟨v,T,n,d,xs,ep,rfl,tb,dp,q⟩:=h
 have h1:=tb.one
 have h8:=tb.most
 refine⟨by show 1<=ba;decide,λc hc=>?_⟩
 have s0:=aG hc (.tup [V.int 0])
 have hc0:upd H c (.tup [V.int 0]) c=some (.tup [V.int 0]):=aD
 show aT _ _ _ _ (upd H c (.tup [V.int 0]))
 generalize upd H c (.tup [V.int 0])=H0 at s0 hc0 ⊢
 obtain⟨j0,hj0⟩:∃j,(bJ (n - 1))[j]?=some [0]:=⟨0,by
  have:∀k,(bJ k)[0]?=some [0]:=λk=>by
   induction k with
   |zero=>rfl
   |succ k ih=>
    show(bJ k++(bJ k).map (· ++ [k+1]))[0]?=_
    rw[cm (au.mp ih).1];exact ih
  exact this _⟩
 refine⟨λm σ' H'=>∃b g0 l s j x3,σ'=[some v,some (.ref d),some (.ref b),x3]/\SqT K H' b ((ic (g0++[l])).map V.int)/\Same H H'/\(g0++[l]).Perm s/\(∃r,g0++[l]=0 :: r)/\(bJ (n - 1))[j]?=some s/\pth (at2 T) (g0++[l])+rest (at2 T) n (s,l)=rest (at2 T) n ([0],0)/\m=n - s.length,⟨n - 1,c,[],0,[0],j0,none,rfl, .of hc0,s0, .refl _,⟨[],rfl⟩,hj0,by show 0+_=_;omega,rfl⟩,?_⟩
 rintro m σ1 H1 ⟨b,g0,l,s,j,x3,rfl,hb,s1,hperm,hz,hj,hval,rfl⟩
 have ok:=jY h1 h8 hj
 have hgl:(g0++[l]).length=s.length:=hperm.length_eq
 have bl:((ic (g0++[l])).map V.int).length=s.length:=by rw[ai,ai,hgl]
 have tb1:=tb.same s1
 have dp1:=dp.same s1
 obtain⟨ta,rs,ev,hta,hrl,_⟩:=tb1.sh.tab
 subst ev
 have hrn:rs.length=n:=by rw[hrl,tb.quad.len]
 have hls:l∈s:=hperm.mem_iff.mp (by simp)
 have hln:=ok.lt l hls
 have hle:=ok.le
 refine⟨_,rfl,b,_,rfl, .inr hb,_,rfl,ta,rs,rfl, .inr hta,_,_,rfl,rfl,_,rfl,?_⟩
 rw[bl,hrn]
 by_cases hf:s.length=n
 ·refine cB (decide_eq_false (by omega)) ?_
  refine⟨_,rfl,q b _ H1 s1 hb ⟨hperm.trans (aBP ok hf),hz⟩ ?_⟩
  rw[rD,<- hval,sS hf]
 ·have hlt:s.length<n:=by omega
  refine cD (decide_eq_true (by omega)) ⟨λσ' H'=>∃m',m'<n - s.length/\∃b g0 l s j x3,σ'=[some (.ref ta),some (.ref d),some (.ref b),x3]/\SqT K H' b ((ic (g0++[l])).map V.int)/\Same H H'/\(g0++[l]).Perm s/\(∃r,g0++[l]=0 :: r)/\(bJ (n - 1))[j]?=some s/\pth (at2 T) (g0++[l])+rest (at2 T) n (s,l)=rest (at2 T) n ([0],0)/\m'=n - s.length,λ_ _ z=>z,?_⟩
  refine⟨_,rfl,b,_,rfl, .inr hb,by rw[ai,hgl];omega,λms hp1 hp2 e he=>?_⟩
  obtain rfl:ms=ic s:=aCr hp1 hp2 (hperm.map _) ok.up
  refine⟨e,_,rfl, .inl ⟨.of aD,λa ha=>?_⟩⟩
  have s2:=(aG he (.lst ((ic s).map V.int))).trans (aG ha (.tup ((ic s).map V.int)))
  have ha2:upd (upd H1 e (.lst ((ic s).map V.int))) a (.tup ((ic s).map V.int)) a=some (.tup ((ic s).map V.int)):=aD
  show aT _ _ _ _ (upd (upd H1 e (.lst ((ic s).map V.int))) a (.tup ((ic s).map V.int)))
  generalize upd (upd H1 e (.lst ((ic s).map V.int))) a (.tup ((ic s).map V.int))=H2 at s2 ha2 ⊢
  have hb2:=s2.tup hb
  have hlast:((ic (g0++[l])).map V.int)[((ic (g0++[l])).map V.int).length - 1]?=some (.int (l:Int)):=by
   rw[ai,ai,ao,fj,az]
   simp
  refine⟨_,rfl,_,rfl,_,rfl,_,rfl,_,rfl,1,rfl,yZ hb2 hlast ?_⟩
  refine⟨.ref ta,T,n,d,a,xs,ep,keys n,rest (at2 T) n,s,l,rfl,tb1.same s2,dp1.same s2, .of ha2,ok.up,?_,by omega,hln,λp hp=>(mW h1 h8 hj hp).1,λr pre H3 s3 hr rows=>?_⟩
  ·obtain⟨r,rfl⟩:=ok.zero;simp
  have hne:left n s≠[]:=λe=>hf (ok.full.mpr e)
  refine .inr ⟨r,pre,_,rfl, .inl (.of hr),rows,by simpa using hne,λi' c row hi1 hi2 hc hmin=>?_⟩
  rw[az] at hi2
  obtain⟨p,hp,rfl⟩:=ip.mp hi2
  have hpm:=cb hp
  have hv2:at2 T l p+rest (at2 T) n (ins p s,p)=rest (at2 T) n (s,l):=by
   rw[uW hlt]
   refine(aAX (x:=at2 T l p+rest (at2 T) n (ins p s,p)) (bj.mpr ⟨p,hpm,rfl⟩) λy hy=>?_).symm
   obtain⟨p',hp',rfl⟩:=bj.mp hy
   exact zI (hmin _ (bj.mpr ⟨p',hp',rfl⟩))
  refine ixT (j:=1) hc (v := .int (p:Int)) rfl ?_
  refine⟨by show 1<=ba;decide,λu hu => .inr ⟨b,u,_,_,rfl,rfl,((s3.trans (aG hu _))).tup hb2, .of aD,by rw[bl];exact cg (show s.length+1<=9 by omega) (by decide),λw H4 _ hw s4=>?_⟩⟩
  obtain⟨_,j',hj'⟩:=mW h1 h8 hj hpm
  refine⟨n - (ins p s).length,by rw[wK];omega,w,g0++[l],p,ins p s,j',_,rfl,?_,s1.trans (s2.trans (s3.trans ((aG hu _).trans s4))),?_,?_,hj',?_,rfl⟩
  ·have e2:(ic (g0++[l])).map V.int++[V.int (p:Int)]=(ic (g0++[l]++[p])).map V.int:=by
    rw[<- xE (s:=g0++[l]) (p:=p),bu (l₁:=ic (g0++[l]))];rfl
   rw[<- e2];exact hw
  ·exact(hperm.append_right [p]).trans iZ.symm
  ·obtain⟨r,hr⟩:=hz
   exact⟨r++[p],by rw[hr];rfl⟩
  ·rw[rD,<- hval,<- hv2];omega
end
def Flo (H:Hp) (pre:List V) (ks:List Ky) (f:Ky->Int):Prop:=pre.length=ks.length/\∀(i:Nat) (k:Ky),ks[i]?=some k->∃b c,pre[i]?=some (.ref b)/\H b=some (.tup [.ref c, .int (k.2:Int), .int (f k)])/\H c=some (.tup ((ic k.1).map V.int))
theorem Flo.same {H H':Hp}{pre:List V}{ks:List Ky}{f:Ky->Int}(h:Flo H pre ks f)(s:Same H H'):Flo H' pre ks f:=⟨h.1,λi k e=>let⟨b,c,e1,e2,e3⟩:=h.2 i k e;⟨b,c,e1,s _ _ e2,s _ _ e3⟩⟩
theorem Flo.x {H H':Hp}{pre:List V}{ks:List Ky}{f:Ky->Int}{d:Addr}{o:HO}(h:Flo H pre ks f)(hd:H d=some o)(ho:∀xs,o ≠ .tup xs)(s:SameX d H H'):Flo H' pre ks f:=
 ⟨h.1,λi k e=>let⟨b,c,e1,e2,e3⟩:=h.2 i k e;⟨b,c,e1,s _ _ (λz=>by subst z;rw[hd] at e2;exact ho _ (da e2)) e2,s _ _ (λz=>by subst z;rw[hd] at e3;exact ho _ (da e3)) e3⟩⟩
theorem Flo.snoc {H:Hp}{pre:List V}{ks:List Ky}{f:Ky->Int}{k:Ky}{b c:Addr}(h:Flo H pre ks f)(h1:H b=some (.tup [.ref c, .int (k.2:Int), .int (f k)]))(h2:H c=some (.tup ((ic k.1).map V.int))):Flo H (pre++[.ref b]) (ks++[k]) f:=by
 refine⟨by rw[ao,ao,h.1];rfl,λi q e=>?_⟩
 rcases qQ e with⟨hi,e⟩ | ⟨hi,e⟩
 ·obtain⟨b,c,e1,e2⟩:=h.2 i q e
  exact⟨b,c,by rw[cm (by rw[h.1];exact hi)];exact e1,e2⟩
 ·have h0:i - ks.length=0:=by
   rcases hk:i - ks.length with _ | m
   ·rfl
   ·rw[hk] at e;cases e
  rw[h0] at e
  obtain rfl:k=q:=by simpa using e
  exact⟨b,c,by rw[dh (by rw[h.1];exact hi),h.1,h0];rfl,h1,h2⟩
theorem DPk.at {H:Hp}{d:Addr}{xs:PEs}{ep:Nat}{ks:List Ky}{f:Ky->Int}{i:Nat}{x:PKy×Addr×V}(h:DPk H d xs ep ks f)(hx:xs[i]?=some x):∃k b,ks[i]?=some k/\x.1=kc k/\x.2.2 = .int (f k)/\H x.2.1=some (.tup [.ref b, .int (k.2:Int)])/\H b=some (.tup ((ic k.1).map V.int)):=by
 have e:=congrArg (λl=>l[i]?) h.2
 simp only[az,hx,Option.map_some] at e
 obtain⟨k,hk,e2⟩:=ip.mp e.symm
 obtain⟨e3,e4⟩:=v3 e2
 obtain⟨b,h1,h2⟩:=h.1.2 x (cb hx)
 rw[<- e3] at h1 h2
 exact⟨k,b,hk,e3.symm,e4.symm,h1,h2⟩
theorem aDO {n:Nat}(h1:1<=n)(h8:n<=8):(keys n).length<=1000:=pR (n - 1) (by omega)
theorem aBR {n:Nat}(h1:1<=n)(h8:n<=8):(([0],0):Ky)∈keys n:=by
 have:∀k,[0]∈bJ k:=λk=>by
  induction k with
  |zero=>exact b7 ..
  |succ k ih=>exact ck _ ih
 exact gB.mpr ⟨this _,by decide⟩
section
variable {K:aa}{S:Addr}
inductive uS (K : aa) (vs : List V) (H : Hp) (Q : VK) : Prop
 |mk (v : V) (T : List (List Int)) (n : Nat) (h0 : vs = [v]) (h1 : Tb K H v T n) (h2 : ∀b gb fa g pre H', Same H H' -> H' b = some (.tup [.int (rest (at2 T) n ([0], 0)), .ref gb, .ref fa]) -> SqT K H' gb ((ic g).map V.int) -> Round n g -> pth (at2 T) (g ++ [0]) = rest (at2 T) n ([0], 0) -> H' fa = some (.lst pre) -> Flo H' pre (keys n) (rest (at2 T) n) -> H fa = none -> Q (.ref b) H') : uS K vs H Q
def spShort (K:aa):Sp:=λvs H Q _=>uS K vs H Q
theorem rd_short (hS:∀H,KeyQ K H (kc ([0],0)) S):∀vs H Q E,spShort K vs H Q E->oW K S (aCF K) (spRound K) { nx:=λ_ H'=>Q .non H',rt:=Q } (start ["table","rests","floors"] vs) H:=by
 intro vs H Q E h
 obtain⟨v,T,n,rfl,tb,q⟩:=h
 have h1:=tb.one
 have h8:=tb.most
 refine⟨_,rfl,v,T,n,rfl,tb,λd xs ep H1 s1 dp=>?_⟩
 refine⟨_,rfl,d,xs,ep,rfl,dp.1.1,λacc ha=>?_⟩
 refine aCv (d:=d) (xs:=xs) (ep:=ep) (λi σ' H'=>i<=xs.length/\(∃x0 x1 x2,σ'=[x0,x1,x2])/\Same H1 H'/\∃L,H' acc=some (.lst L)/\Flo H' L ((keys n).take i) (rest (at2 T) n)) ⟨bc _,⟨none,none,none,rfl⟩,aG ha _,[],aD,rfl,λi k e=>by cases e⟩ (λi σ' H' _ ⟨_,_,sm,_⟩=>sm _ _ dp.1.1) ?_ ?_
 ·rintro i x σ1 H2 p hx hp ⟨_,⟨x0,x1,x2,rfl⟩,sm,L,hL,fl⟩
  obtain⟨k,b,hk,e1,e2,hc,hb⟩:=(dp.same sm).at hx
  have hi:i<xs.length:=(au.mp hx).1
  rw[e2]
  have s2:=aG hp (.tup [V.ref x.2.1,V.int (rest (at2 T) n k)])
  refine⟨p,_,rfl, .of aD,rfl, .ref x.2.1,[.int _],rfl,x.2.1,[.ref b, .int (k.2:Int)],rfl, .of (s2 _ _ hc),rfl, .ref b,[.int _],rfl, .int _,[],rfl,rfl, .int _,[],rfl,rfl,?_⟩
  refine⟨_,rfl,_,rfl,_,rfl,by show 3<=ba;decide,λu hu=>?_⟩
  have s3:=s2.trans (aG hu (.tup [V.ref b,V.int (k.2:Int),V.int (rest (at2 T) n k)]))
  have hL3:=s3 _ _ hL
  refine⟨L,hL3,?_,hi,⟨_,_,_,rfl⟩,yJ ha (sm.trans s3),_,aD,?_⟩
  ·rw[fl.1,fg]
   have:=aDO h1 h8
   exact cw (show min i (keys n).length<=1000 by omega) (by decide)
  ·rw[iz,hk]
   exact((fl.same s3).snoc aD (s3 _ _ hb)).x hL3 (λ_ z=>by cases z) (SameX.put _)
 ·rintro σ1 H2 ⟨_,_,sm,L,hL,fl⟩
  rw[dp.len,k7] at fl
  refine⟨_,rfl,d,S,xs,ep,kc ([0],0),_,rfl,rfl,(dp.same sm).1,hS _,aAZ dp.2 (aBR h1 h8),?_⟩
  refine⟨_,rfl,_,rfl,v,T,n,d,xs,ep,rfl,tb.same (s1.trans sm),dp.same sm,λgb g H3 s3 hg hr hv=>?_⟩
  refine⟨_,rfl,by show 3<=ba;decide,λb hb=>?_⟩
  have s4:=aG hb (.tup [V.int (rest (at2 T) n ([0],0)), .ref gb, .ref acc])
  have s5:=s3.trans s4
  refine q b gb acc g L _ (s1.trans (sm.trans s5)) aD (s4.tup hg) hr hv (s5 _ _ hL) (fl.same s5) (s1.free ha)
end
def aDe (n:Nat):Nat->List Nat->List (List Nat)
 |0,_=>[[]]
 |m+1,s=>(left n s).flatMap λp=>(aDe n m (ins p s)).map (p :: ·)
theorem rJ {n:Nat}:∀{m:Nat}{s w:List Nat},w∈aDe n m s↔w.length=m/\w.Nodup/\∀x∈w,x<n/\x∉s
 |0,s,w=>by
  unfold aDe
  rw[bb]
  constructor
  ·rintro rfl;exact⟨rfl,kd,λx hx=>by cases hx⟩
  ·rintro⟨h,_,_⟩;exact qy.mp h
 |m+1,s,w=>by
  unfold aDe
  rw[jc]
  constructor
  ·rintro⟨p,hp,h⟩
   obtain⟨w',hw,rfl⟩:=bj.mp h
   obtain⟨h1,h2,h3⟩:=rJ.mp hw
   refine⟨by rw[bq,h1],de.mpr ⟨λz=>(h3 p z).2 (kH.mpr (.inl rfl)),h2⟩,λx hx=>?_⟩
   rcases b6.mp hx with e | hx
   ·rw[e];exact jT.mp hp
   ·exact⟨(h3 x hx).1,λz=>(h3 x hx).2 (kH.mpr (.inr z))⟩
  ·rintro⟨h1,h2,h3⟩
   cases w with
   |nil=>cases h1
   |cons p w=>
    obtain⟨n1,n2⟩:=de.mp h2
    refine⟨p,jT.mpr (h3 p (b7 ..)),bj.mpr ⟨w,rJ.mpr ⟨by simpa using h1,n2,λx hx=>⟨(h3 x (ar _ hx)).1,λz=>?_⟩⟩,rfl⟩⟩
    rcases kH.mp z with e | z
    ·exact n1 (by rw[<- e];exact hx)
    ·exact(h3 x (ar _ hx)).2 z
section
variable {t t':Nat->Nat->Int}{n:Nat}
theorem aKN:∀{m:Nat}{s:List Nat}{l:Nat}{w:List Nat},w∈aDe n m s->R t n m s l<=pth t (l :: (w++[0]))
 |0,s,l,w,h=>by
  unfold aDe at h
  rw[bb.mp h]
  show t l 0<=t l 0+0
  omega
 |m+1,s,l,w,h=>by
  unfold aDe at h
  obtain⟨p,hp,h⟩:=jc.mp h
  obtain⟨w',hw,rfl⟩:=bj.mp h
  have ih:=aKN (l:=p) hw
  have:R t n (m+1) s l<=t l p+R t n m (ins p s) p:=aBV (bj.mpr ⟨p,hp,rfl⟩)
  show _<=t l p+pth t (p :: (w'++[0]))
  omega
theorem aIf (h1:1<=n)(h8:n<=8):∀(m:Nat) (s:List Nat) (l j:Nat),(bJ (n - 1))[j]?=some s->n - s.length=m->∃w∈aDe n m s,pth t (l :: (w++[0]))=R t n m s l
 |0,s,l,j,_,_=>⟨[],by unfold aDe;exact b7 ..,by show t l 0+0=t l 0;omega⟩
 |m+1,s,l,j,hj,hm=>by
  have ok:=jY h1 h8 hj
  have hne:left n s≠[]:=λe=>by have:=ok.full.mpr e;omega
  obtain⟨p,hp,e⟩:=bj.mp (xO (l:=(left n s).map λp=>t l p+R t n m (ins p s) p) (by simpa using hne))
  obtain⟨_,j',hj'⟩:=mW h1 h8 hj hp
  obtain⟨w,hw,ew⟩:=aIf h1 h8 m (ins p s) p j' hj' (by rw[wK];omega)
  refine⟨p :: w,jc.mpr ⟨p,hp,bj.mpr ⟨w,hw,rfl⟩⟩,?_⟩
  show t l p+pth t (p :: (w++[0]))=aEd _
  rw[ew,<- e]
def rounds (n:Nat):List (List Nat):=aDe n (n - 1) [0]
def aKY (t:Nat->Nat->Int) (w:List Nat):Int:=pth t (0 :: (w++[0]))
theorem mem_rounds {w:List Nat}:w∈rounds n↔w.length=n - 1/\w.Nodup/\∀x∈w,x<n/\x≠0:=by
 unfold rounds
 rw[rJ]
 simp
theorem rest_le {w:List Nat}(h:w∈rounds n):rest t n ([0],0)<=aKY t w:=aKN h
theorem rest_att (h1:1<=n)(h8:n<=8):∃w∈rounds n,aKY t w=rest t n ([0],0):=by
 obtain⟨j,hj⟩:∃j:Nat,(bJ (n - 1))[j]?=some [0]:=j4.mp (by
  have:∀k,[0]∈bJ k:=λk=>by
   induction k with
   |zero=>exact b7 ..
   |succ k ih=>exact ck _ ih
  exact this _)
 exact aIf h1 h8 (n - 1) [0] 0 j hj rfl
end
end K64.S
namespace K64
open PySem L2
theorem rM {α:Type}(f:Nat->α)(L:List Nat):(L.flatMap λi=>[f i])=L.map f:=by
 induction L with
 |nil=>rfl
 |cons a L ih=>rw[gu,ih];rfl
theorem aCP {ps:List Nat}{n i:Nat}(hlt:∀p∈ps,p<n)(h:i<ps.length):ps.getD i 0<n:=hlt _ (by rw[aj,ah h];exact dz h)
def stp (T:List (List Int)) (ps:List Nat) (k:Nat):Int:=match k with
 |0=>at2 T (ps.getD (ps.length - 1) 0) (ps.getD 0 0)
 |k+1=>at2 T (ps.getD k 0) (ps.getD (k+1) 0)
def aJW (T:List (List Int)) (ps:List Nat):Int:=((aw ps.length).map (stp T ps)).sum
section
variable {K:aa}
theorem wD {t:Nat->Nat->Int}:∀ws:List Nat,((aw (ws.length - 1)).map λi=>t (ws.getD i 0) (ws.getD (i+1) 0)).sum=S.pth t ws
 |[]=>rfl
 |[_]=>rfl
 |a :: b :: l=>by
  have:=wD (t:=t) (b :: l)
  show((aw (l.length+1)).map _).sum=t a b+S.pth t (b :: l)
  rw[kn,b8,fj,j8,<- this]
  rfl
theorem Round.lt {n:Nat}{g:List Nat}(h:S.Round n g):∀p∈g,p<n:=λp hp=>cf.mp (h.perm.mem_iff.mp hp)
theorem Round.len {n:Nat}{g:List Nat}(h:S.Round n g):g.length=n:=by rw[h.perm.length_eq,cz]
theorem Round.mem {n:Nat}{g:List Nat}(h:S.Round n g):∃w∈S.rounds n,g=0 :: w:=by
 obtain⟨r,hr⟩:=h.zero
 have nd:g.Nodup:=h.perm.nodup_iff.mpr iu
 have ln:=Round.len h
 refine⟨r,S.mem_rounds.mpr ⟨?_,?_,λx hx=>⟨Round.lt h x (by rw[hr];exact ar _ hx),λe=>?_⟩⟩,hr⟩
 ·rw[hr,bq] at ln;omega
 ·rw[hr] at nd;exact(de.mp nd).2
 ·rw[hr] at nd;subst e;exact(de.mp nd).1 hx
theorem aDi {T:List (List Int)}{n:Nat}{g:List Nat}(h:S.Round n g):L.lenR T g=S.pth (at2 T) (g++[0]):=by
 obtain⟨r,rfl⟩:=h.zero
 unfold L.lenR
 rw[aJQ,<- wD]
 have e:(0 :: r++[0]).length - 1=(0 :: r).length:=by simp
 rw[e]
 congr 1
 refine fe λi hi=>?_
 have hi:=cf.mp hi
 have e1:(0 :: r++[0]).getD i 0=(0 :: r).getD i 0:=by
  rw[aj,aj,cm hi]
 have e2:(0 :: r++[0]).getD (i+1) 0=((0 :: r).drop 1++(0 :: r).take 1).getD i 0:=by
  rw[aj,aj]
  rfl
 rw[e1,e2]
theorem aCc:∀ns:List Int,L.intsOf (ns.map Dt.int)=ns
 |[]=>rfl
 |n :: ns=>by show n :: L.intsOf (ns.map Dt.int)=_;rw[aCc ns]
theorem aEo:∀ns:List Int,(ns.map Dt.int).all L.whD=true
 |[]=>rfl
 |n :: ns=>by show(L.whD (.int n) && (ns.map Dt.int).all L.whD)=true;rw[aEo ns];rfl
theorem aIH (n:Nat):pW 0 (n:Int)=S.ic (aw n):=by
 unfold pW
 rw[show((n:Int) - 0).toNat=n by omega]
 exact fe λi _=>by omega
theorem aCR {n:Nat}{g:List Nat}(h:S.Round n g):L.roD n (.tup ((S.ic g).map Dt.int))=true:=by
 show(((S.ic g).map Dt.int).all L.whD && (decide ((L.intsOf ((S.ic g).map Dt.int)).take 1=[0]) && (L.intsOf ((S.ic g).map Dt.int)).isPerm (pW 0 (n:Int))))=true
 rw[aEo,aCc,vb,dv]
 refine⟨decide_eq_true ?_,Ae.mpr ?_⟩
 ·obtain⟨r,rfl⟩:=h.zero;rfl
 ·rw[aIH];exact h.perm.map _
theorem aFJ {H:Hp}{b:Addr}{ns:List Int}(h:SqT K H b (ns.map V.int)):Sh K H (.tup (ns.map Dt.int)) (.ref b):=⟨b,_,rfl,h,ShL.ints ns⟩
inductive aCC (K : aa) (vs : List V) (H : Hp) (Q : VK) : Prop
 |mk (v : V) (b : Addr) (T : List (List Int)) (n : Nat) (ps : List Nat) (h0 : vs = [v, .ref b]) (h1 : Sh K H (gY T) v) (h2 : Quad T n) (h3 : SqT K H b (ps.map bW)) (h4 : 1 <= ps.length) (h5 : ps.length <= 8) (h6 : (∀p ∈ ps, p < n)) (h7 : ∀H', Same H H' -> Q (.int (aJW T ps)) H') : aCC K vs H Q
def aHY (K:aa):Sp:=λvs H Q _=>aCC K vs H Q
theorem aIg:∀vs H Q E,aHY K vs H Q E->kY K { nx:=λ_ H'=>Q .non H',rt:=Q } (start ["table","told"] vs) H:=by
 intro vs H Q E h
 obtain⟨v,b,T,n,ps,rfl,hS,hq,hb,h1,h8,hlt,q⟩:=h
 refine⟨_,rfl,b,_,rfl, .inr hb,_,rfl,by rw[ai];omega,by rw[ai];omega,λacc hacc=>?_⟩
 refine cT [0] (((aw ps.length).map (stp T ps)).map V.int) hacc (by rw[ai,ai,cz];omega) ?_ λσ' H' s4 hl'=>⟨acc,_,rfl, .inl (.of hl'),q H' s4⟩
 rw[ai]
 refine Emits.cast (L:=(aw ps.length).flatMap λi=>[V.int (stp T ps i)]) ?_ (by rw[rM,fj];rfl)
 refine gQ (by decide) (by show 0<3;decide) λi σ1 H1 hi l1 ag1 e1 sx1 _=>?_
 have t1:σ1[1]?=some (some v):=(ag1 1 (by decide)).trans rfl
 have t2:σ1[2]?=some (some (.ref b)):=(ag1 2 (by decide)).trans rfl
 have hi:i<ps.length:=hi
 have hb1:=(bR hacc sx1).tup hb
 have hS1:=hS.same (bR hacc sx1)
 rw[fw] at e1
 have fin:∀(R:VK) (j:Nat),j<ps.length->R (.int (at2 T (ps.getD j 0) (ps.getD i 0))) H1->bO K v (bW (ps.getD j 0)) H1 λx H2=>(tOp (bO K) (aF 2) (aF 0)) σ1 H2 λy H3=>bO K x y H3 R:=λR j hj hR=>by
  refine rA hS1 hq (aCP hlt hj) λc hc=>⟨_,t2,_,e1,ixT hb1 (aJx hi) ?_⟩
  refine ixT hc ?_ hR
  obtain⟨row,g1,g2,g3⟩:=hq.get (aCP hlt hj)
  rw[az,L2.fQ (by rw[g3,g2];exact aCP hlt hi)]
  rfl
 refine eJ λR hR=>⟨_,t1,_,t2,_,e1,_,_,rfl,rfl,?_⟩
 cases i with
 |zero=>exact yZ hb1 (by rw[ai];exact aJx (by omega)) (fin R (ps.length - 1) (by omega) (hR H1 (Same.refl _)))
 |succ i=>
  show bO K (.ref b) (.int (((i+1:Nat):Int) - 1)) H1 _
  rw[show((i+1:Nat):Int) - 1=(i:Int) by omega]
  exact ixT hb1 (aJx (by omega)) (fin R i (by omega) (hR H1 (Same.refl _)))
theorem aDg {T:List (List Int)}{n:Nat}{g:List Nat}(h:S.Round n g):aJW T g=S.pth (at2 T) (g++[0]):=by
 obtain⟨r,rfl⟩:=h.zero
 rw[<- wD]
 unfold aJW
 have e:(0 :: r++[0]).length - 1=r.length+1:=by simp
 rw[e,bq]
 have e1:(aw (r.length+1)).map (stp T (0 :: r))=stp T (0 :: r) 0 :: (aw r.length).map (λi=>stp T (0 :: r) (i+1)):=by
  rw[kn,b8,fj];rfl
 have e2:(aw (r.length+1)).map (λi=>at2 T ((0 :: r++[0]).getD i 0) ((0 :: r++[0]).getD (i+1) 0))=(aw r.length).map (λi=>stp T (0 :: r) (i+1))++[stp T (0 :: r) 0]:=by
  rw[ot,bu,b8,qi]
  congr 1
  ·refine fe λi hi=>?_
   have hi:=cf.mp hi
   show _=at2 T ((0 :: r).getD i 0) ((0 :: r).getD (i+1) 0)
   rw[aj,aj,cm (by rw[bq];omega),cm (by rw[bq];omega),<- aj,<- aj]
  ·show _=[at2 T ((0 :: r).getD ((0 :: r).length - 1) 0) 0]
   rw[aj,aj,cm (by rw[bq];omega),dh (by rw[bq];omega),<- aj]
   simp
 rw[e1,e2,List.sum_append,j8]
 show _=_+(_+0)
 omega
end
theorem qZ {T:List (List Int)}{n:Nat}:(fP T n).all id=true↔Ev T n:=by
 refine⟨λh=>?_,zC⟩
 have key:∀i j,j<i->i<n->at2 T i j=at2 T j i:=λi j hj hi=>by
  unfold fP at h
  rw[fR] at h
  have h1:=ja.mp h i (cf.mpr hi)
  rw[fR] at h1
  have h2:=ja.mp h1 j (cf.mpr hj)
  simpa using h2
 intro i j hi hj
 rcases Nat.lt_trichotomy i j with c | c | c
 ·exact(key j i c hj).symm
 ·rw[c]
 ·exact key i j c hi
structure Ft (T:List (List Int))(n:Nat):Prop where
 quad:Quad T n
 one:1<=n
 most:n<=8
 diag:∀i,i<n->at2 T i i=0
 low:∀i j,i<n->j<n->0<=at2 T i j
 big:∀i j,i<n->j<n->at2 T i j<=1000000
theorem Ft.et {T:List (List Int)}{n:Nat}(h:Ft T n)(e:Ev T n):Et T n:=⟨h.quad,h.one,h.most,e,h.diag,h.low,h.big⟩
theorem Et.ft {T:List (List Int)}{n:Nat}(h:Et T n):Ft T n:=⟨h.quad,h.one,h.most,h.diag,h.low,h.big⟩
section
variable {K:aa}{C D:Addr}
def aFZ (K:aa) (C:Addr):Sp:=λvs H Q E=>∃(v:V) (T:List (List Int)) (n:Nat),vs=[v]/\Sh K H (gY T) v/\Ft T n/\(¬ Ev T n->∀H',Same H H'->E (.ref C) none H')/\(∀z b r H',Ev T n->Same H H'->r∈fl T n->SqT K H' z [.str "four", .ref b]->SqT K H' b (r.map V.int)->Q (.ref z) H')/\∀z b qs H',Ev T n->Same H H'->fl T n=[]->SqT K H' z [.str "tree", .ref b]->Dw K H' b qs->aJk T n qs->Q (.ref z) H'
theorem aHE:∀vs H Q E,aFZ K C vs H Q E->hX K C E (aLd K) (aKF K) (aFL K λT n=>(fP T n).all id) { nx:=λ_ H'=>Q .non H',rt:=Q } (start ["table","four"] vs) H:=by
 intro vs H Q E h
 obtain⟨v,T,n,rfl,hS,ft,q0,q1,q2⟩:=h
 refine⟨_,rfl,v,T,n,rfl,hS,ft.quad,ft.one,ft.most,λH1 s1=>⟨_,rfl,?_⟩⟩
 by_cases ev:Ev T n
 ·have et:=ft.et ev
  refine cB (by show(!(fP T n).all id)=false;rw[zC et.ev];rfl) ?_
  refine⟨_,rfl,v,T,n,rfl,hS.same s1,et.quad,et.most,λe H2 s2=>?_,λb r H2 s2 hr hb=>?_⟩
  ·refine⟨_,rfl, .inr ⟨rfl,_,rfl,cB rfl ?_⟩⟩
   refine⟨_,rfl,v,T,n,rfl,(hS.same s1).same s2,et.quad,et.most,aFr et e,et.big,λb qs H3 s3 hD ok=>⟨show 2<=ba by decide,λz hz=>?_⟩⟩
   have sz:=aG hz (.tup [V.str "tree", .ref b])
   exact q2 z b qs _ ev (((s1.trans s2).trans s3).trans sz) e (.of aD) (hD.same sz) ok
  ·refine⟨_,rfl, .inr ⟨rfl,_,rfl,cD rfl ?_⟩⟩
   refine⟨_,rfl,show 2<=ba by decide,λz hz=>?_⟩
   have sz:=aG hz (.tup [V.str "four", .ref b])
   exact q1 z b r _ ev ((s1.trans s2).trans sz) hr (.of aD) (sz.tup hb)
 ·have e0:(fP T n).all id=false:=by
   cases hb:(fP T n).all id with
   |false=>rfl
   |true=>exact absurd (qZ.mp hb) ev
  exact cD (by show(!(fP T n).all id)=true;rw[e0];rfl) (q0 ev _ s1)
def rkN (N:Nat) (rk:Nat->Nat) (v:Nat):Nat:=((aw N).filter λu=>decide (rk u<rk v)).length
theorem aHU {N:Nat}{rk:Nat->Nat}{v:Nat}(h:v<N):rkN N rk v<N:=by
 have:=eA (v :: (aw N).filter λu=>decide (rk u<rk v)) (aw N) (de.mpr ⟨λm=>by
  have:=of_decide_eq_true (du.mp m).2
  omega,iu.filter _⟩) λx hx=>by
   rcases b6.mp hx with rfl | hx
   ·exact cf.mpr h
   ·exact(du.mp hx).1
 rw[bq,cz] at this
 exact this
theorem aIi {N:Nat}{rk:Nat->Nat}{u v:Nat}(hu:u<N)(h:rk u<rk v):rkN N rk u<rkN N rk v:=by
 have:=eA (u :: (aw N).filter λw=>decide (rk w<rk u)) ((aw N).filter λw=>decide (rk w<rk v)) (de.mpr ⟨λm=>by
  have:=of_decide_eq_true (du.mp m).2
  omega,iu.filter _⟩) λx hx=>by
   rcases b6.mp hx with rfl | hx
   ·exact du.mpr ⟨cf.mpr hu,decide_eq_true h⟩
   ·obtain⟨a,b⟩:=du.mp hx
    have b:=of_decide_eq_true b
    exact du.mpr ⟨a,decide_eq_true (by omega)⟩
 rw[bq] at this
 exact this
theorem aBS {N:Nat}{par rk:Nat->Nat}(h:Hw N par rk):∀(k v:Nat),rk v<=k->v<N->An par 0 v
 |k,v,hk,hv=>by
  by_cases e:v=0
  ·rw[e];exact .refl
  ·obtain⟨a,b⟩:=h.up v hv e
   cases k with
   |zero=>omega
   |succ k=>exact .up e (aBS h k (par v) (by omega) a)
theorem aEf {b:Nat->Prop}{x:Nat}{l:List Nat}(h:BlF b (x :: l)):BlF b l:=by
 obtain⟨l1,l2,l3,e,h1,h2,h3⟩:=h
 cases l1 with
 |cons y l1=>
  injection e with e1 e2
  exact⟨l1,l2,l3,e2,λz hz=>h1 z (ar _ hz),h2,h3⟩
 |nil=>
  cases l2 with
  |cons y l2=>
   injection e with e1 e2
   exact⟨[],l2,l3,e2,by simp,λz hz=>h2 z (ar _ hz),h3⟩
  |nil=>
   cases l3 with
   |nil=>cases e
   |cons y l3=>
    injection e with e1 e2
    exact⟨[],[],l3,e2,by simp,by simp,λz hz=>h3 z (ar _ hz)⟩
theorem wB {t u:Nat->Nat->Int}{n:Nat}(h:∀i j,i<n->j<n->t i j=2*u i j):∀{g:List Nat},(∀x∈g,x<n)->pth t g=2*S.pth u g
 |[],_=>rfl
 |[_],_=>rfl
 |a :: b :: g,hg=>by
  show t a b+pth t (b :: g)=2*(u a b+S.pth u (b :: g))
  rw[h a b (hg a (by simp)) (hg b (by simp)),wB h (g:=b :: g) λx hx=>hg x (ar _ hx)]
  omega
theorem aGq {T:List (List Int)}{n:Nat}{qs:List Tq}(et:Et T n)(e0:fl T n=[])(ok:aJk T n qs):∃par rk,Hl (qs.length+1) (qs.map pr) par rk/\S.Round n ((wk (qs.length+1) par 14 0).filter λp=>decide (p<n)) /\
  S.pth (at2 T) (((wk (qs.length+1) par 14 0).filter λp=>decide (p<n))++[0])=S.rest (at2 T) n ([0],0):=by
 obtain⟨V0,r,δ,par,rk,tv,hV,hpl,t1,t2⟩:=ok.hung
 have F:=aFr et e0
 have l13:=ok.tr.len
 have hw:Hw (qs.length+1) par (rkN (qs.length+1) rk):=⟨by omega,λv hv h0=>by
  have a:=(hV _).mp (tv.pin v ((hV v).mpr hv) h0)
  exact⟨a,aIi a (tv.rkd v ((hV v).mpr hv) h0)⟩,λv hv=>aHU hv⟩
 have mmE:∀{x y:Nat},mm (x,y)∈qs.map pr↔∃q∈qs,q.1=min x y/\q.2.1=max x y:=λ{x y}=>by
  rw[bj]
  constructor
  ·rintro⟨q,hq,e⟩
   have e:(q.1,q.2.1)=(min x y,max x y):=e
   exact⟨q,hq,(v3 e).1,(v3 e).2⟩
  ·rintro⟨q,hq,e1,e2⟩
   exact⟨q,hq,show(q.1,q.2.1)=(min x y,max x y) by rw[e1,e2]⟩
 have hl:Hl (qs.length+1) (qs.map pr) par (rkN (qs.length+1) rk):=by
  refine { hw with ndL:=ok.nd,strict:=λe he=>?_,tie:=λx y hx hy=>?_ }
  ·obtain⟨q,hq,rfl⟩:=bj.mp he
   have:=ok.tr.tie q hq
   exact⟨this.1,show q.2.1<_ by omega⟩
  ·rw[mmE]
   constructor
   ·rintro⟨q,hq,e1,e2⟩
    obtain⟨v,h1,h2,h3,h4⟩:=t1 q hq
    have:(x=v/\y=par v)\/(y=v/\x=par v):=by omega
    rcases this with⟨rfl,e⟩ | ⟨rfl,e⟩
    ·exact .inl ⟨h2,e.symm⟩
    ·exact .inr ⟨h2,e.symm⟩
   ·rintro(⟨h1,h2⟩ | ⟨h1,h2⟩)
    ·obtain⟨q,hq,e1,e2⟩:=t2 x ((hV x).mpr hx) h1
     rw[h2] at e1 e2
     exact⟨q,hq,e1,e2⟩
    ·obtain⟨q,hq,e1,e2⟩:=t2 y ((hV y).mpr hy) h1
     rw[h2] at e1 e2
     exact⟨q,hq,by omega,by omega⟩
 have f14:qs.length+1<=rkN (qs.length+1) rk 0+14:=by omega
 have mem:=iV hw 14 0 (by omega) f14
 have many:=ok.many
 have mg:∀x,x∈(wk (qs.length+1) par 14 0).filter (λp=>decide (p<n))↔x<n:=λx=>by
  rw[du,mem x,decide_eq_true_iff]
  exact⟨λh=>h.2,λh=>⟨⟨by omega,aBS hw _ x (ay _) (by omega)⟩,h⟩⟩
 have n1:=et.one
 obtain⟨a,ea⟩:∃a,(wk (qs.length+1) par 14 0).filter (λp=>decide (p<n))=0 :: a:=by
  show ∃a,(0 :: (ch (qs.length+1) par 0).flatMap (wk (qs.length+1) par 13)).filter (λp=>decide (p<n))=0 :: a
  exact⟨_,List.filter_cons_of_pos (p:=λp=>decide (p<n)) (decide_eq_true (show 0<n by omega))⟩
 have ro:S.Round n ((wk (qs.length+1) par 14 0).filter λp=>decide (p<n)):=⟨(kr ((aFR hw 14 0 (by omega) f14).filter _) iu).mpr λx=>by rw[mg,cf],a,ea⟩
 have bl:∀v,BlF (λy=>An par v y) a:=λv=>aEf (x:=0) (ea ▸ aAe (aHL hw 14 0 (by omega) f14))
 refine⟨par,_,hl,ro,?_⟩
 obtain⟨w0,hw0,e1⟩:=Round.mem ro
 rw[e1] at ea
 injection ea with _ ea
 subst ea
 rw[e1]
 refine v5 ?_ (S.rest_le hw0)
 obtain⟨w,hw',e2⟩:=S.rest_att (t:=at2 T) (n:=n) n1 et.most
 rw[<- e2]
 obtain⟨a1,a2,a3⟩:=S.mem_rounds.mp hw0
 obtain⟨b1,b2,b3⟩:=S.mem_rounds.mp hw'
 have same:∀x,x∈w0->x∈w:=λx hx=>ez λno=>by
  have:=eA (x :: w) w0 (de.mpr ⟨no,b2⟩) λy hy=>by
   rcases b6.mp hy with rfl | hy
   ·exact hx
   ·obtain⟨c1,c2⟩:=b3 y hy
    have:=(mg y).mpr c1
    rw[e1] at this
    exact(b6.mp this).resolve_left c2
  rw[bq] at this
  omega
 have key:=vH tv F (M:=(aw (qs.length+1)).filter λv=>decide (v≠0)) (iu.filter _) (λv=>by rw[du,cf,decide_eq_true_iff,hV]) (λx hx=>(hV x).mpr (by have:=(a3 x hx).1;omega)) (λx hx=>(hV x).mpr (by have:=(b3 x hx).1;omega)) same bl
 have inl:∀l:List Nat,(∀x∈l,x<n/\x≠0)->∀x∈0 :: (l++[0]),x<n:=λl h x hx=>by
  rcases b6.mp hx with rfl | hx
  ·omega
  ·rcases b9.mp hx with hx | hx
   ·exact(h x hx).1
   ·rw[bb.mp hx];omega
 have dd:∀i j,i<n->j<n->ds (at2 T) r δ i j=2*at2 T i j:=λi j hi hj=>yN F hi hj (hpl i hi).1 (hpl j hj).1 (hpl i hi).2 (hpl j hj).2
 rw[wB dd (inl _ a3),wB dd (inl _ b3)] at key
 show S.pth (at2 T) (0 :: (w0++[0]))<=S.pth (at2 T) (0 :: (w++[0]))
 omega
def aJL (K:aa) (C D:Addr):Sp:=λvs H Q E=>∃(v:V) (T:List (List Int)) (n:Nat),vs=[v]/\Sh K H (gY T) v/\Ft T n/\(¬ Ev T n->∀H',Same H H'->E (.ref C) none H')/\(Ev T n->fl T n≠[]->∀H',Same H H'->E (.ref D) none H') /\
 ∀z b g H',Ev T n->fl T n=[]->Same H H'->SqT K H' z [.int (S.rest (at2 T) n ([0],0)), .ref b]->SqT K H' b (g.map bW)->S.Round n g->S.pth (at2 T) (g++[0])=S.rest (at2 T) n ([0],0)->Q (.ref z) H'
theorem aBz {L:List Nat}{p:Nat->Bool}:(L.filter p).map bW=(aw L.length).flatMap λi=>if p (L.getD i 0)=true then[bW (L.getD i 0)] else[]:=by
 induction L with
 |nil=>rfl
 |cons x L ih=>
  rw[bq,kn,gu,uk]
  show _=(if p x=true then[bW x] else[])++(aw L.length).flatMap λi=>if p (L.getD i 0)=true then[bW (L.getD i 0)] else[]
  rw[<- ih,List.filter_cons]
  cases p x <;> rfl
theorem aJB:∀vs H Q E,aJL K C D vs H Q E->kX K D E (aEx K) (L.spLength K) (aJg K 14) (aFZ K C) { nx:=λ_ H'=>Q .non H',rt:=Q } (start ["table","word","found","places","round_"] vs) H:=by
 intro vs H Q E h
 obtain⟨v,T,n,rfl,hS,ft,q0,q1,q2⟩:=h
 refine⟨_,rfl,v,T,n,rfl,hS,ft,q0,λz b r H1 ev s1 hr hz hb=>?_,λz b qs H1 ev s1 hf hz hD ok=>?_⟩
 ·refine⟨z,_,rfl,hz,rfl, .str "four",[.ref b],rfl, .ref b,[],rfl,rfl,?_⟩
  exact⟨_,rfl, .str _, .str _,bc _,rfl,rfl,_,rfl,cD (cL _) (q1 ev (λe=>by rw[e] at hr;cases hr) _ s1)⟩
 ·have et:=ft.et ev
  obtain⟨par,rk,hl,ro,best⟩:=aGq et hf ok
  have l13:=ok.tr.len
  have n8:=et.most
  refine⟨z,_,rfl,hz,rfl, .str "tree",[.ref b],rfl, .ref b,[],rfl,rfl,?_⟩
  refine⟨_,rfl, .str _, .str _,bc _,rfl,rfl,_,rfl,cB rfl ?_⟩
  refine⟨_,rfl, .ref b,qs,rfl,hD.sh,l13,λp ys H2 s2 hp hr=>?_⟩
  refine⟨p,ys,qs.length+1,qs.map pr,par,rk,0, .non,rfl,hp,hr,hl,by rw[ai];omega,by omega,by omega,show qs.length+1<=rk 0+14 by omega,λh=>absurd rfl h,λ_=>rfl,λF H3 s3 _ hF=>?_⟩
  have wl:=aCd hl.toHw (m:=14) (x:=0) (by omega) (by omega)
  generalize hW:wk (qs.length+1) par 14 0=W at *
  refine⟨_,rfl,F,rfl, .inl ⟨⟨_, .of hF⟩,λA hA=>?_⟩⟩
  have hS3:=((hS.same s1).same s2).same s3
  obtain⟨ta,rs,rfl,hta,hrl,_⟩:=id hS3.tab
  have rn:rs.length=n:=hrl.trans et.quad.len
  refine cT [0] ((W.filter λp=>decide (p<n)).map bW) hA (by rw[ai];exact cg (j3 ..) (by omega)) (Emits.cast (aAU (K:=K) (a:=F) (xs:=W.map bW) (L:=λi=>if decide (W.getD i 0<n)=true then[bW (W.getD i 0)] else[]) (by decide) (by show 0<2;decide) (λH' sx => .of (bR hA sx _ _ hF)) λi x σ1 H4 hx l4 ag4 s40 sx4 _=>?_) ?_) λσ1 H4 s4 hA4=>?_
  ·rw[az] at hx
   obtain⟨y,hy,rfl⟩:=ip.mp hx
   have ey:W.getD i 0=y:=by rw[aj,hy];rfl
   rw[ey]
   have t1:σ1[1]?=some (some (.ref ta)):=(ag4 1 (by decide)).trans rfl
   refine qP (c:=decide (y<n)) (L:=[bW y]) (λ_ _=>trivial) (λR hR=>⟨_,s40,_,t1,ta,rs,rfl, .inr ((bR hA sx4).tup hta),_,_,rfl,rfl,_,rfl,?_⟩) λ_ H5 s5=>eJ λR hR=>⟨_,s40,hR H5 (Same.refl _)⟩
   rw[rn]
   have:decide ((y:Int)<(n:Int))=decide (y<n):=decide_eq_decide.mpr (by omega)
   rw[this]
   exact hR _ (Same.refl _)
  ·rw[ai];exact(aBz (p:=λp=>decide (p<n))).symm
  ·refine⟨A,_,rfl, .inl ⟨.of hA4,λg hg=>?_⟩⟩
   have sg:=aG hg (.tup ((W.filter λp=>decide (p<n)).map bW))
   have s5:=((s1.trans s2).trans s3).trans (s4.trans sg)
   have hg5:SqT K (upd H4 g (.tup ((W.filter λp=>decide (p<n)).map bW))) g ((W.filter λp=>decide (p<n)).map bW) := .of aD
   refine⟨_,rfl,_,rfl, .ref ta,g,T,n,_,rfl,hS.same s5,et.quad,by omega,hg5,Round.len ro,et.one,Round.lt ro,λH6 s6=>?_⟩
   rw[aDi ro,best]
   refine⟨_,rfl,show 2<=ba by decide,λy hy=>?_⟩
   have sy:=aG hy (.tup [V.int (S.rest (at2 T) n ([0],0)), .ref g])
   exact q2 y g _ _ ev hf (s5.trans (s6.trans sy)) (.of aD) ((s6.trans sy).tup hg5) ro best
end
structure Kf (K:aa)(X C_NoBack C_NoRow C_NoTable C_NoText C_NotEven C_NotStraight C_RoundError C_TooFew C_TooMany:Addr)(b:Bool):Prop where
 xF:aGZ K X
 hF:xi K (.ref X) (.ref C_RoundError)=some true
 oF:xh K (.ref X) [.ref C_NotStraight, .ref C_TooFew, .ref C_TooMany, .ref C_NoBack, .ref C_NoRow, .ref C_NoText]=some false
 eF:jj K (.ref X) (.ref C_NotEven)=some b
 tF:jj K (.ref X) (.ref C_NoTable)=some (!b)
 vF:jj K (.ref X) (.type "ValueError")=some true
section
variable {K:aa}{C_NoBack C_NoRow C_NoTable C_NoText C_NotEven C_NotStraight C_RoundError C_TooFew C_TooMany:Addr}
inductive aFc (K : aa) (vs : List V) (H : Hp) (Q : VK) : Prop
 |mk (w : Nat) (v : V) (T : List (List Int)) (n : Nat) (h0 : vs = [.int (w : Int), v]) (h1 : Sh K H (gY T) v) (h2 : Ft T n) (h3 : (¬ Ev T n -> ∀H', Same H H' -> Q (.str "even") H')) (h4 : (Ev T n -> fl T n ≠ [] -> w ≠ 0 -> ∀H', Same H H' -> Q (.str "table") H')) (h5 : (Ev T n -> fl T n = [] \/ w = 0 -> ∀H', Same H H' -> Q (.str "") H')) : aFc K vs H Q
def aJP (K:aa):Sp:=λvs H Q _=>aFc K vs H Q
theorem aJu (kE:Kf K C_NotEven C_NoBack C_NoRow C_NoTable C_NoText C_NotEven C_NotStraight C_RoundError C_TooFew C_TooMany true)(kT:Kf K C_NoTable C_NoBack C_NoRow C_NoTable C_NoText C_NotEven C_NotStraight C_RoundError C_TooFew C_TooMany false) :
  ∀vs H Q E,aJP K vs H Q E->fS K C_NoBack C_NoRow C_NoTable C_NoText C_NotEven C_NotStraight C_RoundError C_TooFew C_TooMany (aFZ K C_NotEven) (aJL K C_NotEven C_NoTable) { nx:=λ_ H'=>Q .non H',rt:=Q } (start ["way","table","kind","some","e"] vs) H:=by
 intro vs H Q E h
 obtain⟨w,v,T,n,rfl,hS,ft,q0,q1,q2⟩:=h
 refine⟨_,rfl, .int (w:Int), .int 0,bc _,rfl,rfl,_,rfl,?_⟩
 rw[dP]
 by_cases c:w=0
 ·refine cD (decide_eq_true (by omega)) ?_
  refine⟨_,rfl,v,T,n,rfl,hS,ft,λne H1 s1=>?_,λz b r H1 ev s1 hr hz hb=>⟨_,rfl,q2 ev (.inr c) _ s1⟩,λz b qs H1 ev s1 hf hz hD ok=>⟨_,rfl,q2 ev (.inr c) _ s1⟩⟩
  refine⟨C_NotEven,rfl,kE.hF,λa σ' ha hl=>?_⟩
  obtain⟨x0,x1,x2,x3,x4,rfl⟩:∃x0 x1 x2 x3 x4,σ'=[x0,x1,x2,x3,x4]:=by
   match σ',hl with
   |[x0,x1,x2,x3,x4],_=>exact⟨x0,x1,x2,x3,x4,rfl⟩
  have m0:=aG ha (aAy a C_NotEven)
  have h0:∀H2,Same (upd H1 a (aAy a C_NotEven)) H2->H2 a=some (aAy a C_NotEven):=λH2 s=>s _ _ aD
  refine⟨_,rfl,show 6<=ba by decide,λtp htp=>?_⟩
  have m:=aG htp (.tup [V.ref C_NotStraight, .ref C_TooFew, .ref C_TooMany, .ref C_NoBack, .ref C_NoRow, .ref C_NoText])
  refine⟨a,_, .ref tp,false,rfl,h0 _ m,kE.xF, .inr (.inr ⟨tp,[C_NotStraight,C_TooFew,C_TooMany,C_NoBack,C_NoRow,C_NoText],rfl,aD,kE.oF⟩),?_⟩
  refine⟨_,rfl,a,_,_,true,rfl,h0 _ m,kE.xF, .inl ⟨_,rfl,kE.vF⟩,_,rfl,show 2<=ba by decide,λso hso=>?_⟩
  have ms:=aG hso (.lst [V.bl false, .bl (!true)])
  have mm2:=m.trans ms
  refine⟨_,rfl,so,_,rfl, .inl (.of aD),rfl,rfl,_,rfl,cD rfl ?_⟩
  refine⟨_,rfl,a,_,_,true,rfl,h0 _ mm2,kE.xF, .inr (.inl ⟨_,rfl,kE.eF⟩),?_⟩
  refine⟨_,rfl,a,_,_,!true,rfl,h0 _ mm2,kE.xF, .inr (.inl ⟨_,rfl,kE.tF⟩), .bl _, .bl _,bc _,rfl,rfl,_,rfl,cD rfl ?_⟩
  refine⟨show 2<=ba by decide,λli hli=>?_⟩
  have ml:=aG hli (.lst [V.str "table", .str "even"])
  refine⟨_,rfl,a,_,_,true,rfl,h0 _ (mm2.trans ml),kE.xF, .inr (.inl ⟨_,rfl,kE.eF⟩), .inr ⟨_,rfl,?_⟩⟩
  refine ixL (j:=1) (.of aD) rfl ?_
  exact⟨_,rfl,q0 ne _ (s1.trans (m0.trans (mm2.trans ml)))⟩
 ·refine cB (decide_eq_false (by omega)) ?_
  refine⟨_,rfl,v,T,n,rfl,hS,ft,λne H1 s1=>?_,λev nf H1 s1=>?_,λz b g H1 ev hf s1 _ _ _ _=>⟨_,rfl,q2 ev (.inl hf) _ s1⟩⟩
  ·refine⟨C_NotEven,rfl,kE.hF,λa σ' ha hl=>?_⟩
   obtain⟨x0,x1,x2,x3,x4,rfl⟩:∃x0 x1 x2 x3 x4,σ'=[x0,x1,x2,x3,x4]:=by
    match σ',hl with
    |[x0,x1,x2,x3,x4],_=>exact⟨x0,x1,x2,x3,x4,rfl⟩
   have m0:=aG ha (aAy a C_NotEven)
   have h0:∀H2,Same (upd H1 a (aAy a C_NotEven)) H2->H2 a=some (aAy a C_NotEven):=λH2 s=>s _ _ aD
   refine⟨_,rfl,show 6<=ba by decide,λtp htp=>?_⟩
   have m:=aG htp (.tup [V.ref C_NotStraight, .ref C_TooFew, .ref C_TooMany, .ref C_NoBack, .ref C_NoRow, .ref C_NoText])
   refine⟨a,_, .ref tp,false,rfl,h0 _ m,kE.xF, .inr (.inr ⟨tp,[C_NotStraight,C_TooFew,C_TooMany,C_NoBack,C_NoRow,C_NoText],rfl,aD,kE.oF⟩),?_⟩
   refine⟨_,rfl,a,_,_,true,rfl,h0 _ m,kE.xF, .inl ⟨_,rfl,kE.vF⟩,_,rfl,show 2<=ba by decide,λso hso=>?_⟩
   have ms:=aG hso (.lst [V.bl false, .bl (!true)])
   have mm2:=m.trans ms
   refine⟨_,rfl,so,_,rfl, .inl (.of aD),rfl,rfl,_,rfl,cD rfl ?_⟩
   refine⟨_,rfl,a,_,_,true,rfl,h0 _ mm2,kE.xF, .inr (.inl ⟨_,rfl,kE.eF⟩),?_⟩
   refine⟨_,rfl,a,_,_,!true,rfl,h0 _ mm2,kE.xF, .inr (.inl ⟨_,rfl,kE.tF⟩), .bl _, .bl _,bc _,rfl,rfl,_,rfl,cD rfl ?_⟩
   refine⟨show 2<=ba by decide,λli hli=>?_⟩
   have ml:=aG hli (.lst [V.str "table", .str "even"])
   refine⟨_,rfl,a,_,_,true,rfl,h0 _ (mm2.trans ml),kE.xF, .inr (.inl ⟨_,rfl,kE.eF⟩), .inr ⟨_,rfl,?_⟩⟩
   refine ixL (j:=1) (.of aD) rfl ?_
   exact⟨_,rfl,q0 ne _ (s1.trans (m0.trans (mm2.trans ml)))⟩
  ·refine⟨C_NoTable,rfl,kT.hF,λa σ' ha hl=>?_⟩
   obtain⟨x0,x1,x2,x3,x4,rfl⟩:∃x0 x1 x2 x3 x4,σ'=[x0,x1,x2,x3,x4]:=by
    match σ',hl with
    |[x0,x1,x2,x3,x4],_=>exact⟨x0,x1,x2,x3,x4,rfl⟩
   have m0:=aG ha (aAy a C_NoTable)
   have h0:∀H2,Same (upd H1 a (aAy a C_NoTable)) H2->H2 a=some (aAy a C_NoTable):=λH2 s=>s _ _ aD
   refine⟨_,rfl,show 6<=ba by decide,λtp htp=>?_⟩
   have m:=aG htp (.tup [V.ref C_NotStraight, .ref C_TooFew, .ref C_TooMany, .ref C_NoBack, .ref C_NoRow, .ref C_NoText])
   refine⟨a,_, .ref tp,false,rfl,h0 _ m,kT.xF, .inr (.inr ⟨tp,[C_NotStraight,C_TooFew,C_TooMany,C_NoBack,C_NoRow,C_NoText],rfl,aD,kT.oF⟩),?_⟩
   refine⟨_,rfl,a,_,_,true,rfl,h0 _ m,kT.xF, .inl ⟨_,rfl,kT.vF⟩,_,rfl,show 2<=ba by decide,λso hso=>?_⟩
   have ms:=aG hso (.lst [V.bl false, .bl (!true)])
   have mm2:=m.trans ms
   refine⟨_,rfl,so,_,rfl, .inl (.of aD),rfl,rfl,_,rfl,cD rfl ?_⟩
   refine⟨_,rfl,a,_,_,false,rfl,h0 _ mm2,kT.xF, .inr (.inl ⟨_,rfl,kT.eF⟩),?_⟩
   refine⟨_,rfl,a,_,_,!false,rfl,h0 _ mm2,kT.xF, .inr (.inl ⟨_,rfl,kT.tF⟩), .bl _, .bl _,bc _,rfl,rfl,_,rfl,cD rfl ?_⟩
   refine⟨show 2<=ba by decide,λli hli=>?_⟩
   have ml:=aG hli (.lst [V.str "table", .str "even"])
   refine⟨_,rfl,a,_,_,false,rfl,h0 _ (mm2.trans ml),kT.xF, .inr (.inl ⟨_,rfl,kT.eF⟩), .inr ⟨_,rfl,?_⟩⟩
   refine ixL (j:=0) (.of aD) rfl ?_
   exact⟨_,rfl,q1 ev nf c _ (s1.trans (m0.trans (mm2.trans ml)))⟩
end
section
variable {K:aa}{C D:Addr}
inductive aEZ (K : aa) (vs : List V) (H : Hp) (Q : VK) : Prop
 |mk (v : V) (T : List (List Int)) (n : Nat) (h0 : vs = [v]) (h1 : Sh K H (gY T) v) (h2 : Et T n) (h3 : ∀H', Same H H' -> Q (.bl true) H') : aEZ K vs H Q
def aLc (K:aa):Sp:=λvs H Q _=>aEZ K vs H Q
theorem aKg:∀vs H Q E,aLc K vs H Q E->iD K (aKt K) (aJP K) (aHY K) (L.spRound K) (S.spShort K) (aJL K C D) { nx:=λ_ H'=>Q .non H',rt:=Q } (start ["table","told"] vs) H:=by
 intro vs H Q E h
 obtain⟨v,T,n,rfl,hS,et,q⟩:=h
 have bl:=aIr et
 have n8:=et.most
 refine⟨_,rfl,v,T,n,rfl,hS,et.quad,n8,λc H1 hc s1=>⟨_,rfl,?_⟩⟩
 by_cases hf:fl T n=[]
 ·obtain rfl:c=false:=by
   cases c with
   |false=>rfl
   |true=>exact absurd hf (bl.mp (hc.mp rfl))
  refine cB rfl ?_
  refine⟨_,rfl,1,v,T,n,rfl,hS.same s1,et.ft,λne=>absurd et.ev ne,λ_ nf=>absurd hf nf,λ_ _ H2 s2=>⟨.str _, .str _,bc _,rfl,rfl,_,rfl,cB (by rw[cL];rfl) ?_⟩⟩
  refine⟨_,rfl,0,v,T,n,rfl,(hS.same s1).same s2,et.ft,λne=>absurd et.ev ne,λ_ nf=>absurd hf nf,λ_ _ H3 s3=>⟨.str _, .str _,bc _,rfl,rfl,_,rfl,cB (by rw[cL];rfl) ?_⟩⟩
  have s13:=(s1.trans s2).trans s3
  refine⟨_,rfl,v,T,n,rfl,hS.same s13,et.ft,λne=>absurd et.ev ne,λ_ nf=>absurd hf nf,λz b g H4 _ _ s4 hz hb ro best=>?_⟩
  have s14:=s13.trans s4
  have hbI:SqT K H4 b ((S.ic g).map V.int):=by
   have:=hb
   rw[lY] at this
   exact this
  have shb:=aFJ hbI
  have shz:Sh K H4 (.tup [.int (S.rest (at2 T) n ([0],0)), .tup ((S.ic g).map Dt.int)]) (.ref z):=⟨z,_,rfl,hz, .int _,[.ref b],rfl,rfl, .ref b,[],rfl,shb,rfl⟩
  refine⟨_,rfl, .ref z,_,"tuple",rfl, .inr (.inr (.inl rfl)),shz,_,rfl,cB rfl ⟨_,rfl,z,_,rfl, .inr hz, .int _, .int _,bc _,rfl,rfl,_,rfl,?_⟩⟩
  rw[yT]
  refine cB rfl ?_
  refine⟨_,rfl,ixT (j:=0) hz rfl ⟨.int _, .int (S.rest (at2 T) n ([0],0)),"int",rfl,by decide,rfl,_,rfl,cB rfl ?_⟩⟩
  refine⟨_,rfl,ixT (j:=0) hz rfl ⟨.int _, .int (S.rest (at2 T) n ([0],0)),"bool",rfl,by decide,rfl,_,rfl,cB rfl ?_⟩⟩
  have hS4:=hS.same s14
  obtain⟨ta,rs,rfl,hta,hrl,_⟩:=id hS4.tab
  have rn:rs.length=n:=hrl.trans et.quad.len
  refine⟨_,rfl,_,rfl,ixT (j:=1) hz rfl ⟨ta,rs,_, .tup ((S.ic g).map Dt.int),rfl,hta,by omega,shb,λds e=>?_,λH5 s5=>?_⟩⟩
  ·cases e
   rw[ai,ai,Round.len ro];omega
  ·rw[rn,aCR ro]
   refine .inl ⟨_,_,rfl,rfl,_,rfl,cB rfl ?_⟩
   have hz5:=s5.tup hz
   refine⟨_,rfl,ixT (j:=0) hz5 rfl ⟨_,rfl,_,rfl,ixT (j:=1) hz5 rfl ⟨.ref ta,b,T,n,g,rfl,hS4.same s5,et.quad,s5.tup hb,by rw[Round.len ro];exact et.one,by rw[Round.len ro];exact n8,Round.lt ro,λH6 s6=>?_⟩⟩⟩
   rw[aDg ro,best]
   refine⟨.int _, .int _,bc _,rfl,rfl,_,rfl,cD (cL _) ?_⟩
   have hz6:=s6.tup hz5
   refine⟨_,rfl,ixT (j:=0) hz6 rfl ⟨_,rfl, .ref ta,T,n,rfl,⟨(hS4.same s5).same s6,et.quad,et.one,n8⟩,λb2 gb fa g2 pre H7 s7 hb2 _ _ _ _ _ _=>?_⟩⟩
   refine ixT (j:=0) (.of hb2) rfl ⟨.int _, .int _,bc _,rfl,rfl,?_⟩
   rw[cL]
   exact q _ (((s14.trans s5).trans s6).trans s7)
 ·obtain rfl:c=true:=hc.mpr (bl.mpr hf)
  refine cD rfl ?_
  refine⟨_,rfl,1,v,T,n,rfl,hS.same s1,et.ft,λne=>absurd et.ev ne,λ_ _ _ H2 s2=>⟨.str _, .str _,bc _,rfl,rfl,_,rfl,cD (cL _) ?_⟩,λ_ o=>absurd o (λo=>o.elim hf (by decide))⟩
  refine⟨_,rfl,0,v,T,n,rfl,(hS.same s1).same s2,et.ft,λne=>absurd et.ev ne,λ_ _ o=>absurd rfl o,λ_ _ H3 s3=>⟨.str _, .str _,bc _,rfl,rfl,?_⟩⟩
  rw[cL]
  exact q _ ((s1.trans s2).trans s3)
end
section
variable {K:aa}
theorem PenN.sm {H H':Hp}{p l:Addr}{ns:List Int}{b:Nat}(h:PenN H p l ns b)(s:Same H H'):PenN H' p l ns b:=h.x s
theorem aKc {T:List (List Int)}{n:Nat}(q:Quad T n)(n1:1<=n)(n8:n<=8)(b:Bnd T n):Ft T n:=by
 exact⟨q,n1,n8,λi hi=>(b i i hi hi).2.2,λi j hi hj=>(b i j hi hj).1,λi j hi hj=>(b i j hi hj).2.1⟩
inductive aCn (K : aa) (vs : List V) (H : Hp) (Q : VK) : Prop
 |mk (a : Addr) (ns : List Int) (h0 : vs = [.ref a]) (h1 : SqL K H a (ns.map V.int)) (h2 : ns.length <= 63) (h3 : ∀H', Q (.bl true) H') : aCn K vs H Q
def aDN (K:aa):Sp:=λvs H Q _=>aCn K vs H Q
theorem aIT:∀vs H Q E,aDN K vs H Q E->aIc K (aKv K) (aIp K) (aJP K) (aLc K) (aBc K) jS (aFL K λT n=>(fP T n).all id) { nx:=λ_ H'=>Q .non H',rt:=Q } (start ["script","pen","turn","table","due"] vs) H:=by
 intro vs H Q E h
 obtain⟨a,ns,rfl,hS,hn,q⟩:=h
 refine⟨_,rfl,a,ns,rfl,hS,λp l ms H1 s1 hP=>?_⟩
 have hP1:PenN H1 p l ms 0:=⟨0,0,hP,ay _⟩
 refine⟨3,rfl,by decide,by decide,?_⟩
 refine bP (lo:=0) (n:=3) (λi σ' H'=>(∃x2,σ'=[some (.ref a),some (.ref p),x2,none,none])/\PenN H' p l ms (300*i)) ⟨⟨_,rfl⟩,hP1⟩ (λi σ4 H4 hi ⟨⟨x2,es⟩,hP4⟩=>?_) λσ4 H4 ⟨⟨x2,es⟩,hP4⟩=>?_
 ·subst es
  refine⟨_,rfl,p,l,ms,300*i,rfl,hP4,by omega,λT n v H5 et hS5 hP5 _=>?_⟩
  refine⟨v,T,n,rfl,hS5,et,λH6 s6=>⟨_,rfl,cB rfl ⟨⟨_,rfl⟩,(hP5.sm s6).le (by omega)⟩⟩⟩
 ·subst es
  refine⟨_,rfl,?_⟩
  refine⟨_,rfl,?_⟩
  dsimp only[aC,aR,tC,fh,gm]
  refine tkN (m:=7) hP4 (by omega) (by decide) (by decide) λr H5 hr hP5 sx5=>?_
  refine aGY (x:=2) (y:=r) ?_
  obtain⟨n,hn⟩:∃n,n=2+r:=⟨_,rfl⟩
  rw[<- hn]
  obtain⟨k,z,hA,hk⟩:=hP5
  refine⟨p,l,ms,k,z,n,false,rfl,hA,by omega,by omega,by omega,λT v k' z' H6 qT bT _ hS6 _ _ _=>?_⟩
  have ft:=aKc qT (by omega) (by omega) bT
  refine⟨show 2<=ba by decide,λli hli=>?_⟩
  have sl:=aG hli (.lst [V.str "even", .str ""])
  refine⟨_,rfl,v,T,n,rfl,hS6.same sl,qT,ft.one,ft.most,λH7 s7=>?_⟩
  have hli7:=s7 _ _ (show upd H6 li (.lst [V.str "even", .str ""]) li=some (.lst [V.str "even", .str ""]) from aD)
  have hS7:=(hS6.same sl).same s7
  by_cases ev:Ev T n
  ·refine .inr ⟨true,by show[V.bl ((fP T n).all id)]=_;rw[qZ.mpr ev],?_⟩
   refine ixL (j:=1) (.of hli7) rfl ?_
   refine⟨_,rfl, .str _, .str _,bc _,rfl,rfl,_,rfl,cB rfl ?_⟩
   refine⟨_,rfl,0,v,T,n,rfl,hS7,ft,λne=>absurd ev ne,λ_ _ o=>absurd rfl o,λ_ _ H8 s8=>⟨.str _, .str _,bc _,rfl,rfl,?_⟩⟩
   rw[cL]
   exact q _
  ·have e0:(fP T n).all id=false:=by
    cases hb:(fP T n).all id with
    |false=>rfl
    |true=>exact absurd (qZ.mp hb) ev
   refine .inr ⟨false,by show[V.bl ((fP T n).all id)]=_;rw[e0],?_⟩
   refine ixL (j:=0) (.of hli7) rfl ?_
   refine⟨_,rfl, .str _, .str _,bc _,rfl,rfl,_,rfl,cD (cL _) ?_⟩
   refine⟨_,rfl,0,v,T,n,rfl,hS7,ft,λ_ H8 s8=>⟨.str _, .str _,bc _,rfl,rfl,_,rfl,cD (cL _) ?_⟩,λe=>absurd e ev,λe=>absurd e ev⟩
   refine⟨_,rfl,1,v,T,n,rfl,hS7.same s8,ft,λ_ H9 s9=>⟨.str _, .str _,bc _,rfl,rfl,?_⟩,λe=>absurd e ev,λe=>absurd e ev⟩
   rw[cL]
   exact q _
end
section
variable {K:aa}{C_NoTable C_NotEven:Addr}
end
theorem all_mk {P:Program}{w:World}{K:aa}{h:Heap}{mg:Str->Option Value}{fa:Addr}(X:K.In h)(G:h.Ns cp mg)(hfa:mg "law" = some (.ref fa))
  (h0:FnIn K "is_whole" "is_whole" (top 11))
  (h1:FnIn K "are_wholes" "are_wholes" (top 12))
  (h2:FnIn K "tied_to" "tied_to" (top 13))
  (h3:FnIn K "walked_from" "walked_from" (top 14))
  (h4:FnIn K "lowest" "lowest" (top 16))
  (h5:FnIn K "common_measure" "common_measure" (top 17))
  (h6:FnIn K "is_even" "is_even" (top 19))
  (h7:FnIn K "is_round" "is_round" (top 20))
  (h8:FnIn K "length" "length" (top 21))
  (h9:FnIn K "bare_ties" "bare_ties" (top 23))
  (h10:FnIn K "tree_or_four" "tree_or_four" (top 24))
  (h11:FnIn K "breaking_four" "breaking_four" (top 25))
  (h12:FnIn K "does_break" "does_break" (top 26))
  (h13:FnIn K "draw" "draw" (top 27))
  (h14:FnIn K "hang" "hang" (top 28))
  (h15:FnIn K "tree_round" "tree_round" (top 29))
  (h16:FnIn K "shortest" "shortest" (top 32))
  (h17:FnIn K "least_rests" "least_rests" (top 33))
  (h18:FnIn K "parts_with_home" "parts_with_home" (top 34))
  (h19:FnIn K "joined" "joined" (top 35))
  (h20:FnIn K "places_left" "places_left" (top 36))
  (h21:FnIn K "onward" "onward" (top 37))
  (h22:FnIn K "round_by_rests" "round_by_rests" (top 38))
  (h23:FnIn K "_law_e_pen" "_law_e_pen" (top 40))
  (h24:FnIn K "_law_e_fresh" "_law_e_fresh" (top 41))
  (h25:FnIn K "_law_e_take" "_law_e_take" (top 42))
  (h26:FnIn K "_law_e_table" "_law_e_table" (top 43))
  (h27:FnIn K "_law_e_straight" "_law_e_straight" (top 44))
  (h28:FnIn K "_law_e_drawn" "_law_e_drawn" (top 45))
  (h29:FnIn K "_law_e_ways" "_law_e_ways" (top 46))
  (h30:FnIn K "_law_e_scaled" "_law_e_scaled" (top 47))
  (h31:FnIn K "_law_e_tree_table" "_law_e_tree_table" (top 48))
  (h32:FnIn K "_law_e_is_broken" "_law_e_is_broken" (top 49))
  (h33:FnIn K "_law_e_breaks" "_law_e_breaks" (top 50))
  (h34:FnIn K "_law_e_near_tree" "_law_e_near_tree" (top 51))
  (h35:FnIn K "_law_e_sum" "_law_e_sum" (top 52))
  (h36:FnIn K "_law_e_refused" "_law_e_refused" (top 53))
  (h37:FnIn K "_law_e_right" "_law_e_right" (top 54))
  (h38:FnIn K "law" "law" (top 55))
  (Z:ZIn K)
  {C_NoBack:Addr} (ac_NoBack:dn K cp "NoBack" = some (some (.ref C_NoBack)))
  {C_NoRow:Addr} (ac_NoRow:dn K cp "NoRow" = some (some (.ref C_NoRow)))
  {C_NoTable:Addr} (ac_NoTable:dn K cp "NoTable" = some (some (.ref C_NoTable)))
  {C_NoText:Addr} (ac_NoText:dn K cp "NoText" = some (some (.ref C_NoText)))
  {C_NotEven:Addr} (ac_NotEven:dn K cp "NotEven" = some (some (.ref C_NotEven)))
  {C_NotStraight:Addr} (ac_NotStraight:dn K cp "NotStraight" = some (some (.ref C_NotStraight)))
  {C_RoundError:Addr} (ac_RoundError:dn K cp "RoundError" = some (some (.ref C_RoundError)))
  {C_START:Addr} (ac_START:dn K cp "START" = some (some (.ref C_START)))
  {C_TooFew:Addr} (ac_TooFew:dn K cp "TooFew" = some (some (.ref C_TooFew)))
  {C_TooMany:Addr} (ac_TooMany:dn K cp "TooMany" = some (some (.ref C_TooMany)))
  (XC_NoTable:ni K C_NoTable aHc "ValueError.__new__" = true)
  (XC_NotEven:ni K C_NotEven aHc "ValueError.__new__" = true)
  (z_ValueError:dn K cp "ValueError" = some none)
  {bS:Addr}{nS nT:Nat}{slS slT:Array (Option Value)}{tS tT:Tok}
  (lS:K.lookup C_START=some ⟨.type "tuple",none, .seq #[.ref bS, .int 0 tS] nS,slS⟩)
  (lT:K.lookup bS=some ⟨.type "tuple",none, .seq #[.int 0 tT] nT,slT⟩)
  (xE_ga:ka K (.ref C_NotEven) "__getattribute__" = some (some (.builtin "BaseException.__getattribute__")))
  (xE_gn:ka K (.ref C_NotEven) "__getattr__" = some none)
  (xE_cl:ka K (.ref C_NotEven) "__class__" = some (some (.builtin "object.__class__")))
  (xE_gt:PySem.W.specialIn K (.builtin "object.__class__") "__get__" = some (some (.builtin "getset_descriptor.__get__")))
  (xE_tk:PySem.W.takesIn K (.builtin "object.__class__")=some true)
  (xE_ob:yh K C_NotEven (.type "object")=some true)
  (xE_bx:A0 K (.ref C_NotEven) (.type "BaseException")=some true)
  (xE_is:(va K C_NotEven).isSome=true)
  (hE:xi K (.ref C_NotEven) (.ref C_RoundError)=some true)
  (oE:xh K (.ref C_NotEven) [.ref C_NotStraight, .ref C_TooFew, .ref C_TooMany, .ref C_NoBack, .ref C_NoRow, .ref C_NoText]=some false)
  (eE:jj K (.ref C_NotEven) (.ref C_NotEven)=some true)
  (tE:jj K (.ref C_NotEven) (.ref C_NoTable)=some false)
  (vE:jj K (.ref C_NotEven) (.type "ValueError")=some true)
  (xT_ga:ka K (.ref C_NoTable) "__getattribute__" = some (some (.builtin "BaseException.__getattribute__")))
  (xT_gn:ka K (.ref C_NoTable) "__getattr__" = some none)
  (xT_cl:ka K (.ref C_NoTable) "__class__" = some (some (.builtin "object.__class__")))
  (xT_ob:yh K C_NoTable (.type "object")=some true)
  (xT_bx:A0 K (.ref C_NoTable) (.type "BaseException")=some true)
  (xT_is:(va K C_NoTable).isSome=true)
  (hT:xi K (.ref C_NoTable) (.ref C_RoundError)=some true)
  (oT:xh K (.ref C_NoTable) [.ref C_NotStraight, .ref C_TooFew, .ref C_TooMany, .ref C_NoBack, .ref C_NoRow, .ref C_NoText]=some false)
  (eT:jj K (.ref C_NoTable) (.ref C_NotEven)=some false)
  (tT:jj K (.ref C_NoTable) (.ref C_NoTable)=some true)
  (vT:jj K (.ref C_NoTable) (.type "ValueError")=some true) :
  ∃fd:FuncData,(∀(s:Shared) (v:Value),A5 s fd ⟨[v],[]⟩ [("script",v)])/\∀base:Heap,K.In base->base.Ns cp mg->FnOk P w K mg base CX0 20 fa fd ["script"] (aDN K):=by
 have B:=Z.blt X G
 have GC_NoBack:=i5 X G ac_NoBack
 have GC_NoRow:=i5 X G ac_NoRow
 have GC_NoTable:=i5 X G ac_NoTable
 have GC_NoText:=i5 X G ac_NoText
 have GC_NotEven:=i5 X G ac_NotEven
 have GC_NotStraight:=i5 X G ac_NotStraight
 have GC_RoundError:=i5 X G ac_RoundError
 have GC_START:=i5 X G ac_START
 have GC_TooFew:=i5 X G ac_TooFew
 have GC_TooMany:=i5 X G ac_TooMany
 have GV:=PySem.W.mg_none_of X G z_ValueError
 have hS:∀H,KeyQ K H (K64.S.kc ([0],0)) C_START:=λH=>⟨bS, .inr ⟨_,_,_,lS,rfl,rfl,rfl,by show 2<=ba;decide, .cons rfl (.cons ⟨_,rfl⟩ .nil)⟩, .inr ⟨_,_,_,lT,rfl,rfl,rfl,by show 1<=ba;decide, .cons ⟨_,rfl⟩ .nil⟩⟩
 have kE:Kf K C_NotEven C_NoBack C_NoRow C_NoTable C_NoText C_NotEven C_NotStraight C_RoundError C_TooFew C_TooMany true:=⟨⟨xE_ga,xE_gn,xE_cl,xE_gt,xE_tk,xE_ob,xE_bx,xE_is⟩,hE,oE,eE,tE,vE⟩
 have kT:Kf K C_NoTable C_NoBack C_NoRow C_NoTable C_NoText C_NotEven C_NotStraight C_RoundError C_TooFew C_TooMany false:=⟨⟨xT_ga,xT_gn,xT_cl,xE_gt,xE_tk,xT_ob,xT_bx,xT_is⟩,hT,oT,eT,tT,vT⟩
 refine' h38.law X G hfa (λb=>?_) (aIT)
 have aAD:=h0.dN P w b X G (wJ B) (K64.L.rd_whole)
 have aDb:=h2.dN P w b X G (aAC B) (aJw)
 have lV:=h5.dN P w b X G (kK B) (aJy)
 have uX:=h6.dN P w b X G (aAz B) (aGF)
 have aEj:=h8.dN P w b X G (aBK B) (K64.L.rd_length)
 have wT:=h9.dN P w b X G (sM ) (aGz)
 have uY:=h12.dN P w b X G (rR ) (aKe)
 have aIZ:=h14.dN P w b X G (aGb B) (aGG)
 have kU:=h18.dN P w b X G (jB B) (K64.S.rd_parts)
 have aEk:=h19.dN P w b X G (aCh B) (K64.S.rd_join)
 have sA:=h20.dN P w b X G (oD B) (K64.S.rd_left)
 have uZ:=h23.dN P w b X G (qO B) (aHW)
 have oR:=h24.dN P w b X G (mY B) (aDK)
 have kW:=h27.dN P w b X G (jE B) (wM)
 have sB:=h29.dN P w b X G (oJ ) (aHV)
 have oA:=h30.dN P w b X G (lM ) (aJF)
 have jU:=h32.dN P w b X G (iG ) (aKh)
 have vA:=h35.dN P w b X G (qJ B) (aIg)
 have vB:=h1.dN P w b X G (qE B aAD) (K64.L.rd_wholes)
 have aEl:=h4.dN P w b X G (aBx lV) (aID)
 have oB:=h11.dN P w b X G (lQ B uY) (aKs)
 have zK:=h21.dN P w b X G (aAL aEk sA) (K64.S.rd_onw)
 have dY:=h25.dN P w b X G (oH oR) (aGm)
 have iP:=h31.dN P w b X G (gW B oA sB) (aKa)
 have oC:=h33.dN P w b X G (lR B jU) (aKq)
 have aAE:=h7.dN P w b X G (vX B vB) (K64.L.rd_round)
 have aJa:=h13.dN P w b X G (aFX B aIZ aEl) (aJm)
 have sC:=h17.dN P w b X G (oQ B zK kU) (K64.S.rd_rests)
 have lW:=h22.dN P w b X G (kN B zK) (K64.S.rd_round)
 have iF:=h26.dN P w b X G (nL B dY) (aFK)
 have oS:=h28.dN P w b X G (mL B dY) (aDB)
 have gM:=h10.dX P w b X G (mO GC_NotEven XC_NotEven oB aJa uX) (aHE)
 have aAF:=h16.dN P w b X G (wF GC_START sC lW) (K64.S.rd_short hS)
 have jV:=h34.dN P w b X G (iK B dY oS kW iF iP) (aJE)
 have R_walked_from:∀m,Def P w K mg b "walked_from" (1+m) ["ties","place","before"] (aJg K m):=by
  intro m
  induction m with
  |zero=>exact h3.d0 X G λ_ _ _ _ h=>h
  |succ m ih=>exact h3.dN P w b X G (oM (k:=1+m) aDb (by omega) ih) (aJC m)
 have sD:=(R_walked_from 14).mono (k:=16) (by decide)
 have jW:=h15.dX P w b X G (rX B GC_NoTable XC_NoTable wT aEj sD gM) (aJB)
 have fX:=h36.dN P w b X G (kB B GC_NotEven GC_NoTable gM GC_NoBack GC_NoRow GC_NoText GC_NotStraight GC_RoundError GC_TooFew GC_TooMany GV jW) (aJu kE kT)
 have oU:=h37.dN P w b X G (mP B jW oC fX vA aAE aAF) (aKg)
 exact aHp B uX dY iF fX jV uZ oU
theorem walk {l:PySem.W.OpenLaw}{q:Program}{loose:List Str}{XP:(Str->Option Value)->Heap->Prop}{YP:World->Heap->Prop}{d:DefRec}{K:Params->aa}(hn:l.most=some 63)(hdf:d.params.defaults=[])
  (hY:∀(w:World) (h:Heap),YP w h->(K w.params).In h)
  (F:∀(w:World) (mg:Str->Option Value) (fa:Addr) (h:Heap),(K w.params).In h->h.Ns cp mg->mg d.name=some (.ref fa) ->
   ∃fd:FuncData,(∀(s:Shared) (u:Value),A5 s fd ⟨[u],[]⟩ [("script",u)])/\∀base:Heap,(K w.params).In base->base.Ns cp mg->FnOk l.prog w (K w.params) mg base CX0 20 fa fd ["script"] (aDN (K w.params))) :
  PySem.W.WalkO q loose XP YP l.row.toRowW d [] (λf vs=>PySem.call f vs):=
 L2.aGw (n:=63) (k:=20) (x:="script") (CX:=λ_=>CX0) (sp:=λw=>aDN (K w.params)) hn (by decide) hdf ⟨rfl,by decide,by decide,rfl⟩ hY F (λ_ _ a ns hl _ hS=>⟨a,ns,rfl,hS,hl,λ_=>rfl⟩) λ_ _ _ _ _ z=>z
end K64
open PySem PySem.W PyProof.Rows
def PySem.W.Fast.tw6566775471563578968:=0
def PySem.W.Fast.tw12702503486998281515:=0
def PySem.W.Fast.tw7638224632851352397:=0
def PySem.W.Fast.tw6749580610836605716:=0
def PySem.W.Fast.tw11417780423016316129:=0
def PySem.W.Fast.tw18000985691896904870:=0
def PySem.W.Fast.tw3277922225393525038:=0
def PySem.W.Fast.tw3499883605287662792:=0
def PySem.W.Fast.tw5038199203489356186:=0
def PySem.W.Fast.tw4704837665388931872:=0
def PySem.W.Fast.tw8560155372817572003:=0
def PySem.W.Fast.tw2798768068598425729:=0
def PySem.W.Fast.tw16554063979384821837:=0
def PySem.W.Fast.tw9516957089295552205:=0
def PySem.W.Fast.tw14055884575066665469:=0
def PySem.W.Fast.tw9932359043845439819:=0
def PySem.W.Fast.tw13101175299571915967:=0
def PySem.W.Fast.tw8281922243136934537:=0
def PySem.W.Fast.tw3977155364155628294:=0
def PySem.W.Fast.tw4148153892658649813:=0
def PySem.W.Fast.tw10318937598410265267:=0
def PySem.W.Fast.tw7775070292494191560:=0
def PySem.W.Fast.tw4517918330465652059:=0
def PySem.W.Fast.tw17180569177594997790:=0
def PySem.W.Fast.tw2277150070885459544:=0
def PySem.W.Fast.tw17616688451656423616:=0
def PySem.W.Fast.tw9435907353735930836:=0
def PySem.W.Fast.tw3232586659025866664:=0
def PySem.W.Fast.tw3867452791484896879:=0
def PySem.W.Fast.tw17522656278827821550:=0
def PySem.W.Fast.tw7601954188808024628:=0
def PySem.W.Fast.tw5924531557520351336:=0
def PySem.W.Fast.tw14068825675415567262:=0
def PySem.W.Fast.tw3048702731677967716:=0
def PySem.W.Fast.tw11301455031030218770:=0
def PySem.W.Fast.tw7114008506444236243:=0
def PySem.W.Fast.tw8434509468123841159:=0
def PySem.W.Fast.tw5078411161841842438:=0
def PySem.W.Fast.tw15779601766381640388:=0
def PySem.W.Fast.tw13685657977472009715:=0
def PySem.W.Fast.tw16436100092148820423:=0
def PySem.W.Fast.tw5582231988171348468:=0
def PySem.W.Fast.tw18387519747568641796:=0
def PySem.W.Fast.tw5182355938496512352:=0
def PySem.W.Fast.tw12616342570977530284:=0
def PySem.W.Fast.tw17370325958279441455:=0
def PySem.W.Fast.tw8171220414038065137:=0
def PySem.W.Fast.tw5932233741999260802:=0
def PySem.W.Fast.tw16129235821762467746:=0
def PySem.W.Fast.tw15363679627194215765:=0
def PySem.W.Fast.tw11949769613790146647:=0
def PySem.W.Fast.tw3497914676817165051:=0
def PySem.W.Fast.tw9545840917668153580:=0
def PySem.W.Fast.tw16594152306217314411:=0
def PySem.W.Fast.tw7787256826372974489:=0
def PySem.W.Fast.tw17113693226531764177:=0
def PySem.W.Fast.tw8408200270494304666:=0
def PySem.W.Fast.tw10435913302186792834:=0
def PySem.W.Fast.tw827851898226315257:=0
def PySem.W.Fast.tw11168326241281600584:=0
def PySem.W.Fast.tw3556203317184395275:=0
def PySem.W.Fast.tw14418660141920563597:=0
def PySem.W.Fast.tw11068592563716535861:=0
def PySem.W.Fast.tw11630789504176704158:=0
def PySem.W.Fast.tw16585474953310195934:=0
def PySem.W.Fast.tw9362668996017775624:=0
def PySem.W.Fast.tw13835824444160393425:=0
def PySem.W.Fast.tw2679033938520714031:=0
def PySem.W.Fast.tw14372848217401241660:=0
def PySem.W.Fast.tw884276118550033449:=0
def PySem.W.Fast.tw16838307584779058451:=0
def PySem.W.Fast.tw13008822958397640564:=0
def PySem.W.Fast.tw9313286397616842909:=0
def PySem.W.Fast.tw7682237897429502172:=0
def PySem.W.Fast.tw6262930969762566239:=0
def PySem.W.Fast.tw11263282881450204959:=0
def PySem.W.Fast.tw15181558258651932344:=0
def PySem.W.Fast.tw14765138219687734577:=0
def PySem.W.Fast.tw2394962726591370094:=0
def PySem.W.Fast.tw5102571866698708639:=0
def PySem.W.Fast.tw15136956046807716985:=0
def PySem.W.Fast.tw12015876662000314570:=0
def PySem.W.Fast.tw7242386910850119988:=0
def PySem.W.Fast.tw17215458072573891592:=0
def PySem.W.Fast.tw6806483772304969570:=0
def PySem.W.Fast.tw10733978850667857001:=0
def PySem.W.Fast.tw3274513547550969480:=0
def PySem.W.Fast.tw1392187155767453794:=0
def PySem.W.Fast.tw11770102062658919245:=0
def PySem.W.Fast.tw302980871930999231:=0
def PySem.W.Fast.tw9131818238856645538:=0
def PySem.W.Fast.tw11198637774857979199:=0
def PySem.W.Fast.tw8653428242706171933:=0
def PySem.W.Fast.tw6637521885705708039:=0
def PySem.W.Fast.tw3449817956231972787:=0
def PySem.W.Fast.tw15746168320100768556:=0
def PySem.W.Fast.tw1853039931142739947:=0
def PySem.W.Fast.tw10217213554366631445:=0
def PySem.W.Fast.tw14102252827713422773:=0
def PySem.W.Fast.tw3440019703841049663:=0
def PySem.W.Fast.tw6838638564437315259:=0
def PySem.W.Fast.tw8280573474697792177:=0
def PySem.W.Fast.tw11846091215308220901:=0
def PySem.W.Fast.tw3788365187605103442:=0
def PySem.W.Fast.tw9487216110560300724:=0
def PySem.W.Fast.tw15525156649843684406:=0
def PySem.W.Fast.tw17585766512357714065:=0
def PySem.W.Fast.tw18251791940406668551:=0
def PySem.W.Fast.tw3490741098501911804:=0
def PySem.W.Fast.tw9233536489935052640:=0
def PySem.W.Fast.tw269612116381806637:=0
def PySem.W.Fast.tw5002441349489692470:=0
def PySem.W.Fast.tw6569720892554236095:=0
def PySem.W.Fast.tw1720704681516202075:=0
def PySem.W.Fast.tw11916624541092985074:=0
def PySem.W.Fast.tw1948556629683645314:=0
def PySem.W.Fast.tw6732793643047922716:=0
def PySem.W.Fast.tw6439490636258504366:=0
def PySem.W.Fast.tw16563349800688507100:=0
def PySem.W.Fast.tw7017762770130621167:=0
def PySem.W.Fast.tw10989991485498067558:=0
def PySem.W.Fast.tw2010277126346889382:=0
def PySem.W.Fast.tw7075598604862486262:=0
def PySem.W.Fast.tw4152621596272703887:=0
def PySem.W.Fast.tw9108331347675353919:=0
def PySem.W.Fast.tw9044792000202271062:=0
def PySem.W.Fast.tw2414221934953347947:=0
def PySem.W.Fast.tw13559492961652145383:=0
def PySem.W.Fast.tw3344709599484591294:=0
def PySem.W.Fast.tw269817240171526523:=0
def PySem.W.Fast.tw14727150861622242580:=0
def PySem.W.Fast.tw11843319394690392400:=0
def PySem.W.Fast.tw11657289366248023661:=0
def PySem.W.Fast.tw3927446946479278423:=0
def PySem.W.Fast.tw5973865708568636995:=0
def PySem.W.Fast.tw13334650943636673013:=0
def PySem.W.Fast.tw4906796460477311764:=0
def PySem.W.Fast.tw13222622428615848702:=0
def PySem.W.Fast.tw8404486387191693506:=0
def PySem.W.Fast.tw9267950859180401178:=0
def PySem.W.Fast.tw9248507923547128973:=0
def PySem.W.Fast.tw1810583740281006662:=0
set_option maxRecDepth 100000 in
set_option maxHeartbeats 0 in
theorem PySem.Challenge.cw_homeround_k64_rounds_of_trees_holds : PySem.Challenge.rw_homeround_k64_rounds_of_trees.Holds := by
  w_on; o_law; k_head; (case hw => w_witness2)
  k_fill
  refine K64.walk (l := PySem.Challenge.rw_homeround_k64_rounds_of_trees) rfl rfl (λw h Y => PySem.W.kIn_of Y) ?F
  case F =>
    intro w mg fa h KX G hmg
    refine' K64.all_mk KX G hmg ?h0 ?h1 ?h2 ?h3 ?h4 ?h5 ?h6 ?h7 ?h8 ?h9 ?h10 ?h11 ?h12 ?h13 ?h14 ?h15 ?h16 ?h17 ?h18 ?h19 ?h20 ?h21 ?h22 ?h23 ?h24 ?h25 ?h26 ?h27 ?h28 ?h29 ?h30 ?h31 ?h32 ?h33 ?h34 ?h35 ?h36 ?h37 ?h38 ?Z ?ac_NoBack ?ac_NoRow ?ac_NoTable ?ac_NoText ?ac_NotEven ?ac_NotStraight ?ac_RoundError ?ac_START ?ac_TooFew ?ac_TooMany ?XC_NoTable ?XC_NotEven ?z_ValueError ?lS ?lT ?xE_ga ?xE_gn ?xE_cl ?xE_gt ?xE_tk ?xE_ob ?xE_bx ?xE_is ?hE ?oE ?eE ?tE ?vE ?xT_ga ?xT_gn ?xT_cl ?xT_ob ?xT_bx ?xT_is ?hT ?oT ?eT ?tT ?vT
    case h0 | h1 | h2 | h3 | h4 | h5 | h6 | h7 | h8 | h9 | h10 | h11 | h12 | h13 | h14 | h15 | h16 | h17 | h18 | h19 | h20 | h21 | h22 | h23 | h24 | h25 | h26 | h27 | h28 | h29 | h30 | h31 | h32 | h33 | h34 | h35 | h36 | h37 | h38 => refine' L2.FnIn.mk ?a ?l ?c ?k; (case a => k_is); (case l => k_is); (case c => k_is); (case k => k_is)
    case Z => constructor <;> k_is
    case ac_NoBack | ac_NoRow | ac_NoTable | ac_NoText | ac_NotEven | ac_NotStraight | ac_RoundError | ac_START | ac_TooFew | ac_TooMany | z_ValueError => k_is
    case XC_NoTable | XC_NotEven | lS | lT | xE_ga | xE_gn | xE_cl | xE_gt | xE_tk | xE_ob | xE_bx | xE_is | hE | oE | eE | tE | vE | xT_ga | xT_gn | xT_cl | xT_ob | xT_bx | xT_is | hT | oT | eT | tT | vT => first | k_is | kernel_rfl
