import PyProof.Rows.All
import Wide.All
import OpenK.AllK
import Wide.FinOn
import Lean
import PyProof.EqAt
import PyProof.EqKinds
import PyProof.TupleCall
import PyProof.Rows.SetFrom
import PyProof.ExcAttrAll.ValueError
import KE.KDictList
import KE.KRevIter
import KE.KPairComp
import PyProof.EqAt
import KE.KSortTup
import PyProof.DictValues
import PyProof.DictWalks
import KE.KDictList
import KE.KItemsList
import KE.KIsAll
import KE.KIntText
import KE.KRevSl
import PyProof.StrCalls2
import PyProof.CallStr
import PyProof.StrLawsTight
import PyProof.StrLawsChain
import KE.KLam
import KE.KMinKey
import KE.KNestM
import PyProof.ExcInit
import PySem.Challenge.RW_homeround_k40_shares_refused
set_option Elab.async false
set_option linter.all false
set_option maxRecDepth 100000
set_option maxHeartbeats 4000000
noncomputable section
open PySem.W renaming Frag->aa,nsIn->au,mg_of->bc,keepIn->bj,codeIn->bp,fnOf->bw,kitOne->cq,mg_none_of->de,findIn->ic,excIn->jj,exmOne->jm,kitAny->lh,Looks->mm,kas_place->m7,clsIn->nr,kas_sort->nz,cellsFrom_some->og,specialIn->o3,kas_rev->ph,looks_findIn->qb,mroIn->qj,takesIn->qv,kas_desc->sr,kas_descPart->su,methodObj->ua,subIn->u3,kas_asc->u4,hideAll_get->xi,kas_count->yc,kas_tail3->zo,kas_bin->zp
open PySem renaming wpAny_bind->ae,wpAny_pure->ak,mainGlobals->ar,sizeLine->ba,starEach->dz,bootBuiltins->d9,wpAny_call_entry->e8,wpAny_callSpecial?_slot->fg,wpAny_holding->ft,mem_of_lookup->fu,wpAny_field->gf,wpAny_setField_rec->gi,compareOp->gj,Spec->gm,wpAny_truthy_bool->gp,wpAny_newObj_type->gq,wpAny_mono->il,wpAny_seqItems->i7,codeAny_builtin->jb,cellsFrom->ji,rawInt->js,wpAny_isInstance->jx,codeAny_mono->j3,intKind->j8,binaryOp->kd,wpAny_passesOwn->kg,wpAny_attempt->ky,wpAny_askSetting->lg,tupleKeyHash->me,foldedSetIterable->mh,wpAny_rule->mj,wpAny_setState_of->mq,wpAny_specialOf->nu,assignEach->oq,sliceBounds->ou,wpAny_pyIter_list->oz,wpAny_setField->o8,isSubtype_tuple_tuple->o9,wpAny_updateSeq_pair->qa,codeAny_call_builtin->qc,wpAny_standAt->qd,wpAny_newList->qf,wpAny_onRaise->qi,wpAny_execs_nil->ql,letOwnedTupleGo->qm,wpAny_loadPart'->qo,wpAny_setEntries_of->qz,backTo->rh,wpAny_Call_Name_kw->rk,wpAny_typeOf->rn,wpAny_pyIter_tuple->sd,wpAny_tupleItemsOf->sk,firstArgMember->tq,wpAny_newTuple->tu,sysModules->t9,wpAny_comprehension_free->ud,IsPair->ug,wpAny_pyNext_tuple_item->uk,behindInMarks->um,sizeLine_eq->uo,codeAny->uq,wpAny_of_eq->ur,wpAny_eqBool_int->ve,pyNext->vf,wpAny_forIn_list->vg,noFill_tuple_add->vh,checkBuiltinCall->vi,wpAny_pyNext_tuple_end->vj,wpAny_pyIter_tupleiter->vk,richCompare_meets_room->vm,holding->vt,Result->vv,codeAny_of_tree->vx,pushCells_keeps->vy,builtinLookup_eq_fast->wa,call_meets->wk,isInstance->wm,reduceHash->wo,unbindBehindTheSuite->w4,newFunctionEnv->xb,wpAny_runValue->xf,isSubtype_stop->xg,isSubtype_type->xh,standAt->xj,wpAny_letGo->xn,seq_tuple_add->ya,plainId_quiet->yd,builtinsNs->yg,wpAny_call->yh,getItem->yi,callerA->yj,relabel->yk,strKind_is->ym,assign->yo,concat_meets->yp,seqIndex_neg->yr,setAddHashed->yx,pyIter->y9,BindsTo->za,richCompare->zd,seqIndex_of->ze,keywordEach->zf,pushCells->zg,IsEnum->zk,eqIsQuiet->zm
open List renaming length_map->af,getElem?_eq_getElem->ah,getElem?_eq_some_iff->ai,getD_eq_getElem?_getD->ao,size_toArray->aq,range->av,length_append->az,mem_of_getElem?->bt,mem_cons_of_mem->bu,getElem?_map->cf,length_set->cv,mem_singleton->cy,map_append->cz,getElem?_append_right->da,replicate->dc,length_take->df,mem_cons_self->dh,getElem?_append_left->dj,mem_cons->dk,length_cons->dm,getElem?_set_ne->dn,length_filter_le->dq,mem_append->dv,length_range->dy,map_cons->d3,mem_append_right->ef,all_eq_true->e9,mem_map->fh,take_length->fq,getElem?_set_self->fw,lookup_cons->gk,mem_range->gr,length_drop->gv,take_add_one->gx,map_map->gz,forIn_cons->h7,append_assoc->ip,toArray->iq,append_nil->i4,mem_filter->i8,nodup_cons->i9,mem_iff_getElem?->jc,not_mem_nil->jg,forIn_nil->jl,getElem_mem->jw,getElem_map->jy,getElem?_drop->j6,filter_append->j7,mem_append_left->kc,getElem?_take_of_lt->kh,flatMap_cons->km,getElem?_replicate->kr,replicate_succ->ku,filter_cons_of_pos->kz,filter_cons_of_neg->la,length_replicate->lr,length_singleton->lu,any_cons->mi,getElem?_set->mr,getElem_inj->m8,length_nil->ni,all_cons->nk,map_take->nq,getElem_range->n4,range_succ_eq_map->oo,flatten_cons->ow,getElem?_eq_none->pg,countP_cons->pk,ext_getElem->pw,filterMap_cons->qk,find?_cons->qp,range_succ->qq,getElem_of_mem->qx,mem_filterMap->rj,zip_cons_cons->rl,pairwise_cons->rq,all_map->sa,map_inj_right->sv,pairwise_iff_getElem->tw,ext_getElem?->uj,length_eq_zero_iff->uv,map_drop->uw,take_of_length_le->vp,of_mem_zip->vw,countP_mono_left->v8,any_map->wc,getElem?_toArray->wd,pairwise_append->w6,drop_zero->xc,map_congr_left->xr,perm_singleton->xt,getElem?_range->xw,findIdx?->ye,map_nil->yq,map_set->yu,length->zb
open PySem.Heap renaming get?_push_of_some->aj,get?_push_size->bh,lt_size->bo,size_push->fv,SameBut->ij,get?_update_self->ja,get?_update_other->vo,get?_push_cases->wx,ExtBut->xm,get?_update_ne->xq,FlyingW->yv
open Nat renaming lt_of_lt_of_le->aw,zero_le->ay,le_refl->bg,lt_of_le_of_lt->bq,pow_le_pow_right->cg,le_trans->dg,ne_of_lt->di,lt_succ_of_lt->gw,le_of_lt->gy,le_add_right->jh,ne_of_gt->jk,lt_succ_self->jv,lt_irrefl->jz,not_lt_zero->lx,mod_eq_of_lt->px,min_eq_left->qr,le_of_succ_le->uc,le_succ->uu,mul_le_mul_right->w9,gcd_comm->yy,add_mul->zh
open Option.some renaming inj->bf
open Bool renaming false_ne_true->br,and_eq_true->du,false_eq_true->e7,not_eq_true->fc,true_and->fm,false_and->gu,not_true->j5,and_eq_true_iff->p6,false_or->qe,true_or->yt
open Int renaming toNat_natCast->bz,mul_comm->ez,mul_assoc->fk,mul_left_comm->gh,mul_zero->iw,mul_nonneg->iy,mul_le_mul_of_nonneg_right->jd,zero_add->jn,neg_mul->ka,mul_ediv_cancel_left->nh,mul_one->ot,mul_add->o7,le_of_lt->pe,mul_pos->q9,natAbs_mul->t7,eq_of_mul_eq_mul_left->t8,le_of_dvd->vb,le_refl->vc,emod_nonneg->v7,natAbs_dvd_natAbs->wg,le_antisymm->wj,mul_ediv_cancel'->w8,add_mul->xu,add_comm->yz,zero_mul->y1,mul_neg->zv
open PySem.SetTable renaming below->cw,bits->n5,toList_insertAt->uh
open Array renaming length_toList->dw,getElem?_eq_getElem->d7,getD_eq_getD_getElem?->ei,getElem?_eq_none->jr,perm_iff_toList_perm->mx,getElem?_toList->pf,forIn_toList->so,getElem_toList->w5,toList->yn
open PySem.Builtin.SmallTypes renaming nextOf->d6,ownedTupleIsFree->fj,ownedTupleHandOut->h9
open Classical renaming byContradiction->d8
open PySem.PassesOwn renaming never->ff
open PySem.Builtin.Tuple renaming tupleHashOf->fi,tupleExact->kl,tupleItemsOf->mw
open PySem.SeqAt renaming EqAt->fz,notIn_tupleAt->xl
open Option renaming isSome_iff_exists->gc
open PyProof.Rows renaming slot_tuple_getitem->gg,callWith_type1->iz,seqObj->jo,listUpdate_at->qg,AllBare->tm,SortSt->ui,failedOf->u6,subscriptTail_builtinR->vn,listItems_at->vz,get?_update_seq->v3,SortKind->wq,sortedHeap->wt,entry_tuple_getitem->xk,mirror_size->xo,seqEpoch_at->xp,envOfC->xy,pendingOf->zq,tuples'->zw
open Ne renaming symm->ig
open PySem.F renaming plainAttrs_list->i5,slot_tuple_iterator_next->jt,slot_list_append->kn,type_list_append->kq,slot_enumerate_next->md,called_set->mf,args_tuple_add_2->nc,entry_tuple_add->nj,slot_tuple_add->oh,slot_tuple_hash->o6,args_tuple_iterator_next_1->qh,entry_tuple_iterator_next->qt,slot_zip_next->qu,slot_tuple_eq->qw,args_enumerate_next_1->uz,entry_enumerate_next->vq,excBase_ValueError->wz
open PySem.Obj renaming mapSeq->je,data_mapFields->lq,isFreed_of_fields->ma,cls_mapFields->uf,mapFields->u5
open PySem.AutoSeq1 renaming wpAny_loadPart'->jf,sub_tuple_tuple->ub
open PySem.Heap.SameBut renaming update->jq
open False renaming elim->ju
open PySem.Str renaming ofString->j4
open PySem.Builtin.Slice renaming slicePlaces->j9,sliceAdjust->my,sliceApplied->rg
open PySem.Around renaming under_plainId->ke
open PySem.Builtin.List renaming listExtendWith->ly,listTooLong->ng,listLengthHint->qy,listUpdate->u7
open PySem.SetTable.below renaming go->mn
open PySem.PyData renaming hasDict->mz,hasDictAll->ue,depthAll->v5
open PySem.Builtin.Int renaming intBits->m9
open Array.Perm renaming refl->nv
open PyProof.Rows.F renaming plain_set_update_loop->n9,entry_set_update_loop->u9
open PySem.Calls renaming Name_function_global->rf,call_function_entry->t6,evalArgs_plain->wu
open PySem.Code renaming quiet_builtin->se
open List.cons renaming injEq->we,inj->yf
open PySem.Paired renaming length->xx
open LawfulBEq renaming eq_of_beq->yb
open PySem.pickOrder renaming go->yw
open Prod renaming ext->y2
open PySem.Shared renaming heap->zj
namespace L2
open PySem PySem.Spec PyProof.Rows
abbrev Key:=Sum Int Str
def aIl:Key->Value->Bool
 | .inl k,v=>Value.isInt k v
 | .inr x,v=>Value.isStrOf x v
def aLF (w:World):Key->Int
 | .inl k=>hashInt k
 | .inr x=>hashStr w x
theorem dM:∀ {k:Key} {v:Value},aIl k v=true->(∃ i t,k=Sum.inl i/\v=Value.int i t)\/(∃ x t,k=Sum.inr x/\v=Value.str x t)
 | .inl i,v,h=>by
  obtain⟨t,e⟩:=Value.isInt_shape (k:=i) (v:=v) h
  exact .inl ⟨i,t,rfl,e⟩
 | .inr x,v,h=>by
  obtain⟨t,e⟩:=Value.isStrOf_shape (x:=x) (v:=v) h
  exact .inr ⟨x,t,rfl,e⟩
theorem aIq (a b:Int):decide ((Sum.inl a:Key)=Sum.inl b)=(a == b):=by
 by_cases e:a=b
 ·subst e;simp
 ·have h:¬ (Sum.inl a:Key)=Sum.inl b:=fun q=>e (Sum.inl.inj q)
  rw[decide_eq_false h]
  exact (beq_eq_false_iff_ne.mpr e).symm
theorem aJA (a b:Str):decide ((Sum.inr a:Key)=Sum.inr b)=decide (a=b):=by
 by_cases e:a=b
 ·subst e;simp
 ·have h:¬ (Sum.inr a:Key)=Sum.inr b:=fun q=>e (Sum.inr.inj q)
  rw[decide_eq_false h,decide_eq_false e]
theorem aIp (a:Int)(b:Str):decide ((Sum.inl a:Key)=Sum.inr b)=false:=decide_eq_false (fun q=>nomatch q)
theorem aIL (a:Str)(b:Int):decide ((Sum.inr a:Key)=Sum.inl b)=false:=decide_eq_false (fun q=>nomatch q)
def aAH (prog:Program) (w:World):PySem.KeyKind prog w Key where
 is:=aIl
 hash:=aLF w
 inj:=fun v a b ha hb=>by
  rcases dM ha with ⟨i,t,rfl,rfl⟩ | ⟨x,t,rfl,rfl⟩
  ·rcases dM hb with ⟨j,u,rfl,e⟩ | ⟨y,u,rfl,e⟩
   ·injection e with e1 _;rw[e1]
   ·exact nomatch e
  ·rcases dM hb with ⟨j,u,rfl,e⟩ | ⟨y,u,rfl,e⟩
   ·exact nomatch e
   ·injection e with e1 _;rw[e1]
 byValue:=fun k v h=>by
  rcases dM h with ⟨i,t,rfl,rfl⟩ | ⟨x,t,rfl,rfl⟩ <;> rfl
 pyHash:=fun hv h=>by
  rcases dM hv with ⟨i,t,rfl,rfl⟩ | ⟨x,t,rfl,rfl⟩
  ·exact wpAny_pyHash_int h
  ·exact wpAny_pyHash_str h
 eqBool:=fun hu hv h=>by
  rcases dM hu with ⟨i,t,rfl,rfl⟩ | ⟨x,t,rfl,rfl⟩
  ·rcases dM hv with ⟨j,u,rfl,rfl⟩ | ⟨y,u,rfl,rfl⟩
   ·rw[aIq] at h;exact ve h
   ·rw[aIp] at h;exact SeqAt.EqAt.int_str i t y u _ _ _ _ h
  ·rcases dM hv with ⟨j,u,rfl,rfl⟩ | ⟨y,u,rfl,rfl⟩
   ·rw[aIL] at h;exact SeqAt.EqAt.str_int x t j u _ _ _ _ h
   ·rw[aJA] at h;exact wpAny_eqBool_str h
 «strs»:=fun k x t v h=>by
  rcases dM h with ⟨i,u,rfl,e⟩ | ⟨y,u,rfl,e⟩
  ·exact nomatch e
  ·injection e with e1 _
   subst e1
   cases v <;> rfl
inductive V where
 | non | bl (b:Bool) | int (i:Int) | str (x:Str) | byt (b:Array UInt8) | flt (b:UInt64) | ref (a:Addr) | ty (n:String)
 deriving DecidableEq
def RelV:V->Value->Prop
 | .non,u=>u=Value.none
 | .bl b,u=>u=Value.bool b
 | .int i,u=>∃ t,u=Value.int i t
 | .str x,u=>∃ t,u=Value.str x t
 | .byt b,u=>∃ t,u=Value.bytes b t
 | .flt b,u=>∃ t,u=Value.float b t
 | .ref a,u=>u=Value.ref a
 | .ty n,u=>u=Value.type n
abbrev Vals:List V->List Value->Prop:=Paired RelV
theorem Vals.length {xs:List V}{us:List Value}(r:Vals xs us):xs.length=us.length:=xx r
theorem Vals.get:∀ {xs:List V} {us:List Value} {i:Nat} {x:V},Vals xs us->xs[i]?=some x->∃ u,us[i]?=some u/\RelV x u
 | _,_,_,_, .nil,e=>by simp at e
 | _,_,0,_, .cons r _,e=>by simp at e;subst e;exact ⟨_,rfl,r⟩
 | _,_,i+1,x, .cons _ t,e=>by
  obtain⟨u,h1,h2⟩:=Vals.get (i:=i) (x:=x) t (by simpa using e)
  exact ⟨u,by simpa using h1,h2⟩
theorem Vals.set {x:V}{u:Value}(r:RelV x u):∀ {xs:List V} {us:List Value} (i:Nat),Vals xs us->Vals (xs.set i x) (us.set i u)
 | _,_,_, .nil => .nil
 | _,_,0, .cons _ t => .cons r t
 | _,_,i+1, .cons q t => .cons q (Vals.set r i t)
theorem Vals.append:∀ {xs ys:List V} {us ws:List Value},Vals xs us->Vals ys ws->Vals (xs++ys) (us++ws)
 | _,_,_,_, .nil,s=>s
 | _,_,_,_, .cons r t,s => .cons r (Vals.append t s)
theorem Vals.take:∀ {xs:List V} {us:List Value} (n:Nat),Vals xs us->Vals (xs.take n) (us.take n)
 | _,_,0,_ => .nil
 | _,_,_+1, .nil => .nil
 | _,_,n+1, .cons r t => .cons r (Vals.take n t)
theorem Vals.drop:∀ {xs:List V} {us:List Value} (n:Nat),Vals xs us->Vals (xs.drop n) (us.drop n)
 | _,_,0,r=>r
 | _,_,_+1, .nil => .nil
 | _,_,n+1, .cons _ t=>Vals.drop n t
def RelO:Option V->Option Value->Prop
 | some v,some u=>RelV v u
 | none,none=>True
 | _,_=>False
def KV {κ:Type}:List (κ × V)->List (κ × Value)->Prop:=Paired fun (p:κ × V) (q:κ × Value)=>p.1=q.1/\RelV p.2 q.2
def kV:Key->V
 | .inl i => .int i
 | .inr x => .str x
inductive HO where
 | lst (xs:List V)
 | tup (xs:List V)
 | dK (kvs:List (Key × V)) | dT (kvs:List (List Key × V))
 | set (S:Int->Bool) (n:Nat)
 | ins (C dx:Addr) (fs:List (Str × V))
 | own (x:Addr)
 | xd (fs:List (Str × V))
 | met (f x:Addr)
 | rng (lo hi:Int)
 | frz (o:Obj) (u:HO)
 | tbl (ps:Array Value)
 | ext (φ:Heap->Prop)
abbrev Hp:=Addr->Option HO
def upd (H:Hp) (a:Addr) (o:HO):Hp:=fun b=>if b=a then some o else H b
theorem aD {H:Hp}{a:Addr}{o:HO}:upd H a o a=some o:=by unfold upd;rw[if_pos rfl]
theorem bA {H:Hp}{a b:Addr}{o:HO}(h:b≠a):upd H a o b=H b:=by unfold upd;rw[if_neg h]
theorem ne_of {H:Hp}{a b:Addr}{o u:HO}(h:H a=some o)(h':H b=some u)(d:o≠u):a≠b:=by
 intro e;subst e;rw[h] at h';exact d (bf h')
theorem bO {H:Hp}{a b:Addr}{o:HO}(h:H a=some o)(h':H b=none):a≠b:=by
 intro e;subst e;rw[h] at h';cases h'
def TupN (h:Heap) (a:Addr) (items:Array Value):Prop:=∃ o,h.get? a=some o/\o.cls = .type "tuple"/\(∃ n,o.data = .seq items n)/\o.dict=none
theorem TupN.tup {h:Heap}{a:Addr}{items:Array Value}(p:TupN h a items):IsTup h a items:=let ⟨o,e,c,n,_⟩:=p;⟨o,e,c,n⟩
theorem TupN.new (h:Heap)(items:Array Value):TupN (h.push { cls := .type "tuple",data := .seq items }) h.objs.size items:=⟨_,bh _ rfl,rfl,⟨_,rfl⟩,rfl⟩
section
variable (P:Program)(w:World)
def ObjOk (H:Hp) (h:Heap) (a:Addr):HO->Prop
 | .lst xs=>xs.length<=ba/\∃ (its:List Value) (n:Nat),Vals xs its/\h.get? a=some { cls := .type "list",data := .seq its.toArray n }
 | .tup xs=>xs.length<=ba/\∃ its:List Value,Vals xs its/\TupN h a its.toArray
 | .dK kvs=>kvs.length<=ba/\(a == t9)=false/\∃ vs,KV kvs vs/\h.DictOf (aAH P w) a vs
 | .dT kvs=>kvs.length<=ba/\(a == t9)=false/\∃ xs:List (List Key × Addr × Value),
   Paired (fun (p:List Key × V) (q:List Key × Addr × Value)=>p.1=q.1/\H q.2.1=some (.tup (p.1.map kV))/\RelV p.2 q.2.2) kvs xs /\
   ∃ o es ep,h.get? a=some o/\o.ExactDict/\o.data = .dict es ep/\es.toList=xs.map (entryOfKey (tupleKind (aAH P w)))/\(xs.map (·.1)).Nodup
 | .set S n=>h.SetOf (j8 P w) a S n
 | .ins C dx fs=>H dx=some (.own a)/\fs.length<=1000/\dx≠a/\h.get? a=some (PySem.W.instObj C dx) /\
   ∃ mA,h.Ns1 dx mA/\(∀ f,RelO (fs.lookup f) (mA f))/\PySem.Within mA (fs.map (·.1))
 | .own _=>∃ o,h.get? a=some o
 | .xd fs=>∃ mA,h.Ns1 a mA/\∀ f,RelO (fs.lookup f) (mA f)
 | .rng lo hi=>∃ t u v,h.get? a=some { cls := .type "range",data := .fields #[.int lo t, .int hi u, .int 1 v] }
 | .frz o u=>h.get? a=some o/\ObjOk H h a u
 | .tbl ps=>h.get? a=some { cls := .none,data := .fields ps }
 | .met f x=>h.get? a=some (ua (.ref f) (.ref x))
 | .ext φ=>φ h/\(∃ o,h.get? a=some o)/\∀ h1 h2:Heap,φ h1->(∀ o,h1.get? a=some o->h2.get? a=some o)->φ h2
def HOk (H:Hp) (h:Heap):Prop:=∀ a o,H a=some o->ObjOk P w H h a o
end
section
variable {P:Program}{w:World}{H H':Hp}{h h':Heap}{a:Addr}{o:HO}
theorem ObjOk.lt (x:ObjOk P w H h a o):a<h.objs.size:=by
 cases o with
 | lst xs=>obtain⟨_,_,_,_,e⟩:=x;exact bo e
 | tup xs=>obtain⟨_,_,_,p⟩:=x;exact p.tup.lt
 | dK kvs=>obtain⟨_,_,_,_,o,_,_,e,_⟩:=x;exact bo e
 | dT kvs=>obtain⟨_,_,_,_,o,_,_,e,_⟩:=x;exact bo e
 | set S n=>obtain⟨o,_,_,_,e,_⟩:=x;exact bo e
 | ins C dx fs=>obtain⟨_,_,_,e,_⟩:=x;exact bo e
 | own y=>obtain⟨_,e⟩:=x;exact bo e
 | xd fs=>obtain⟨_,⟨_,_,_,e,_⟩,_⟩:=x;exact bo e
 | rng lo hi=>obtain⟨_,_,_,e⟩:=x;exact bo e
 | frz ob u=>obtain⟨e,_⟩:=x;exact bo e
 | tbl ps=>exact bo (show h.get? a=some _ from x)
 | met f y=>exact bo (show h.get? a=some _ from x)
 | ext φ=>obtain⟨_,⟨_,e⟩,_⟩:=x;exact bo e
theorem Paired.mapP {α β:Type}{F G:α->β->Prop}:∀ {l₁:List α} {l₂:List β},Paired F l₁ l₂->(∀ a b,F a b->G a b)->Paired G l₁ l₂
 | _,_, .nil,_ => .nil
 | _,_, .cons r t,f => .cons (f _ _ r) (Paired.mapP t f)
theorem ObjOk.stay (x:ObjOk P w H h a o)(k:∀ b u,(b=a\/H b=some (.own a))->h.get? b=some u->h'.get? b=some u)
  (ho:∀ b,H b=some (.own a)->H' b=some (.own a)) (ht:∀ b xs,H b=some (.tup xs)->H' b=some (.tup xs)):ObjOk P w H' h' a o:=by
 induction o with
 | lst xs=>obtain⟨z,its,n,r,e⟩:=x;exact ⟨z,its,n,r,k _ _ (.inl rfl) e⟩
 | tup xs=>obtain⟨z,its,r,ob,e,c⟩:=x;exact ⟨z,its,r,ob,k _ _ (.inl rfl) e,c⟩
 | dK kvs=>obtain⟨z,y,vs,r,ob,es,ep,e,c⟩:=x;exact ⟨z,y,vs,r,ob,es,ep,k _ _ (.inl rfl) e,c⟩
 | dT kvs=>
  obtain⟨z,y,xs,r,ob,es,ep,e,c⟩:=x
  exact ⟨z,y,xs,Paired.mapP r fun p q z=>⟨z.1,ht _ _ z.2.1,z.2.2⟩,ob,es,ep,k _ _ (.inl rfl) e,c⟩
 | set S n=>obtain⟨ob,es,ep,t,e,c⟩:=x;exact ⟨ob,es,ep,t,k _ _ (.inl rfl) e,c⟩
 | ins C dx fs=>
  obtain⟨d,z,ne,e,mA,⟨od,es,ep,e2,c⟩,r⟩:=x
  exact ⟨ho _ d,z,ne,k _ _ (.inl rfl) e,mA,⟨od,es,ep,k _ _ (.inr d) e2,c⟩,r⟩
 | own y=>obtain⟨ob,e⟩:=x;exact ⟨ob,k _ _ (.inl rfl) e⟩
 | xd fs=>obtain⟨mA,⟨od,es,ep,e,c⟩,r⟩:=x;exact ⟨mA,⟨od,es,ep,k _ _ (.inl rfl) e,c⟩,r⟩
 | rng lo hi=>obtain⟨t,u,v,e⟩:=x;exact ⟨t,u,v,k _ _ (.inl rfl) e⟩
 | frz ob u ih=>obtain⟨e,q⟩:=x;exact ⟨k _ _ (.inl rfl) e,ih q⟩
 | tbl ps=>
  have e:h.get? a=some { cls := .none,data := .fields ps }:=x
  show h'.get? a=some { cls := .none,data := .fields ps }
  exact k a _ (.inl rfl) e
 | met f y=>
  have e:h.get? a=some (ua (.ref f) (.ref y)):=x
  show h'.get? a=some (ua (.ref f) (.ref y))
  exact k a _ (.inl rfl) e
 | ext φ=>obtain⟨p,⟨o,e⟩,st⟩:=x;exact ⟨st _ _ p fun o q=>k _ _ (.inl rfl) q,⟨o,k _ _ (.inl rfl) e⟩,st⟩
theorem HOk.lt (x:HOk P w H h)(e:H a=some o):a<h.objs.size:=(x a o e).lt
theorem HOk.fresh (x:HOk P w H h)(e:h.objs.size<=a):H a=none:=by
 cases q:H a with
 | none=>rfl
 | some u=>exact absurd (aw (x.lt q) e) (jz _)
theorem HOk.kept (x:HOk P w H h)(k:∀ b u,h.get? b=some u->h'.get? b=some u):HOk P w H h':=fun a o e=>
 (x a o e).stay (fun b u _ q=>k b u q) (fun _ q=>q) fun _ _ q=>q
theorem HOk.laid (x:HOk P w H h)(k:∀ b u,h.get? b=some u->h'.get? b=some u)(hp:h.objs.size<=a)(new:ObjOk P w (upd H a o) h' a o):HOk P w (upd H a o) h':=fun b u e=>by
 have hn:=x.fresh hp
 by_cases hb:b=a
 ·subst hb;rw[aD] at e;cases e;exact new
 ·rw[bA hb] at e
  exact (x b u e).stay (fun c v _ q=>k c v q) (fun c q=>by rw[bA (bO q hn)];exact q) fun c xs q=>by rw[bA (bO q hn)];exact q
end
def Rd (H:Hp) (a:Addr) (u:HO):Prop:=H a=some u\/∃ o,H a=some (.frz o u)
theorem Rd.of {H:Hp}{a:Addr}{u:HO}(h:H a=some u):Rd H a u := .inl h
theorem Rd.ok {P:Program}{w:World}{H:Hp}{h:Heap}{a:Addr}{u:HO}(r:Rd H a u)(x:HOk P w H h):ObjOk P w H h a u:=by
 rcases r with r | ⟨o,r⟩
 ·exact x a u r
 ·obtain⟨_,q⟩:=x a _ r
  exact q
def Mut:Option HO->Prop
 | some (.lst _)=>True
 | some (.dK _)=>True
 | some (.dT _)=>True
 | some (.set _ _)=>True
 | some (.ins _ _ _)=>True
 | some (.ext _)=>True
 | _=>False
section
variable {P:Program}{w:World}{H:Hp}{h h':Heap}{x e:Addr}{o':HO}
theorem HOk.write (ok:HOk P w H h)(mu:Mut (H x))(he:e=x\/H e=some (.own x))(k:∀ b u,b≠e->h.get? b=some u->h'.get? b=some u)(heo:∃ u,h'.get? e=some u)
  (new:ObjOk P w (upd H x o') h' x o'):HOk P w (upd H x o') h':=fun b u q=>by
 have nown:∀ c y,H c=some (.own y)->c≠x:=fun c y r z=>by subst z;rw[r] at mu;exact mu
 have ntup:∀ c xs,H c=some (.tup xs)->c≠x:=fun c xs r z=>by subst z;rw[r] at mu;exact mu
 by_cases hb:b=x
 ·subst hb;rw[aD] at q;cases q;exact new
 ·rw[bA hb] at q
  by_cases hbe:b=e
  ·have q':H b=some (.own x):=by
    rcases he with z | z
    ·exact absurd (hbe.trans z) hb
    ·rw[hbe];exact z
   rw[q] at q';cases q'
   obtain⟨v,hv⟩:=heo
   exact ⟨v,by rw[hbe];exact hv⟩
  ·refine (ok b u q).stay (fun c v hc r=>k c v ?_ r) (fun c r=>by rw[bA (nown c b r)];exact r) fun c xs r=>by rw[bA (ntup c xs r)];exact r
   rcases hc with rfl | hc
   ·exact hbe
   ·rintro rfl
    rcases he with z | z
    ·exact nown c b hc z
    ·rw[hc] at z;cases z;exact hb rfl
end
structure Un (fs ex:List Addr)(H H':Hp)(h h':Heap):Prop where
 keep:∀ b o,h.get? b=some o->H b=none->b∉fs->b∉ex->h'.get? b=some o
 slot:∀ b o,h.get? b=some o->H b=none->b∈fs->b∉ex->∃ sl,h'.get? b=some { o with slots:=sl }
 free:∀ b o,h.get? b=some o->H b=none->b∉ex->H' b=none
 there:∀ b o,h.get? b=some o->b∉ex->∃ o',h'.get? b=some o'
 tups:∀ b xs,H b=some (.tup xs)->H' b=some (.tup xs)
 frzs:∀ b o u,H b=some (.frz o u)->H' b=some (.frz o u)
 tbls:∀ b ps,H b=some (.tbl ps)->∃ more,H' b=some (.tbl (ps++more))
section
variable {fs fs' ex ex':List Addr}{H H1 H2:Hp}{h h1 h2 h':Heap}{a x e:Addr}{o:HO}
theorem Un.any (u:Un fs ex H H1 h h1){b:Addr}{ob:Obj}(q:h.get? b=some ob)(n:H b=none)(hx:b∉ex):∃ sl,h1.get? b=some { ob with slots:=sl }:=by
 by_cases hb:b∈fs
 ·exact u.slot b ob q n hb hx
 ·exact ⟨ob.slots,u.keep b ob q n hb hx⟩
theorem Un.trans (a:Un fs ex H H1 h h1)(b:Un fs ex H1 H2 h1 h2):Un fs ex H H2 h h2 where
 keep:=fun c ob q n hc hx=>b.keep c ob (a.keep c ob q n hc hx) (a.free c ob q n hx) hc hx
 slot:=fun c ob q n hc hx=>by
  obtain⟨sl,e1⟩:=a.slot c ob q n hc hx
  obtain⟨sl',e2⟩:=b.slot c _ e1 (a.free c ob q n hx) hc hx
  exact ⟨sl',e2⟩
 free:=fun c ob q n hx=>by
  obtain⟨o',e1⟩:=a.there c ob q hx
  exact b.free c o' e1 (a.free c ob q n hx) hx
 there:=fun c ob q hx=>by
  obtain⟨o',e1⟩:=a.there c ob q hx
  exact b.there c o' e1 hx
 tups:=fun c xs q=>b.tups c xs (a.tups c xs q)
 frzs:=fun c ob xs q=>b.frzs c ob xs (a.frzs c ob xs q)
 tbls:=fun c ps q=>by
  obtain⟨m1,e1⟩:=a.tbls c ps q
  obtain⟨m2,e2⟩:=b.tbls c _ e1
  exact ⟨m1++m2,by rw[e2,Array.append_assoc]⟩
theorem Un.kept (k:∀ b u,h.get? b=some u->h'.get? b=some u):Un fs ex H H h h':=
 ⟨fun b ob q _ _ _=>k b ob q,fun b ob q _ _ _=>⟨ob.slots,k b ob q⟩,fun _ _ _ n _=>n,fun b ob q _=>⟨ob,k b ob q⟩,fun _ _ q=>q,fun _ _ _ q=>q,fun _ ps q=>⟨#[],by rw[q];simp⟩⟩
theorem Un.refl:Un fs ex H H h h:=Un.kept fun _ _ q=>q
theorem Un.laid (k:∀ b u,h.get? b=some u->h'.get? b=some u)(hp:h.objs.size<=a)(hn:H a=none):Un fs ex H (upd H a o) h h' where
 keep:=fun b u q _ _ _=>k b u q
 slot:=fun b u q _ _ _=>⟨u.slots,k b u q⟩
 free:=fun b u q n _=>by rw[bA (di (aw (bo q) hp))];exact n
 there:=fun b u q _=>⟨u,k b u q⟩
 tups:=fun b xs q=>by rw[bA (bO q hn)];exact q
 frzs:=fun b u xs q=>by rw[bA (bO q hn)];exact q
 tbls:=fun b ps q=>⟨#[],by rw[bA (bO q hn),q];simp⟩
theorem Un.write (mu:Mut (H x))(he:e=x\/H e=some (.own x))(k:∀ b u,b≠e->h.get? b=some u->h'.get? b=some u)(heo:∃ u,h'.get? e=some u):Un fs ex H (upd H x o) h h':=by
 have hx:∀ b,H b=none->b≠x:=fun b n z=>by subst z;rw[n] at mu;exact mu
 have hb:∀ b,H b=none->b≠e:=fun b n z=>by
  subst z
  rcases he with r | r
  ·exact hx b n r
  ·rw[n] at r;cases r
 have hm:∀ b u,H b=some u->¬ Mut (some u)->b≠x:=fun b u q nm z=>by subst z;rw[q] at mu;exact nm mu
 refine ⟨fun b u q n _ _=>k b u (hb b n) q,fun b u q n _ _=>⟨u.slots,k b u (hb b n) q⟩,fun b u q n _=>by rw[bA (hx b n)];exact n,fun b u q _=>?_,
  fun b xs q=>by rw[bA (hm b _ q fun z=>z)];exact q,fun b u xs q=>by rw[bA (hm b _ q fun z=>z)];exact q,fun b ps q=>⟨#[],by rw[bA (hm b _ q fun z=>z),q];simp⟩⟩
 by_cases hbe:b=e
 ·subst hbe;exact heo
 ·exact ⟨u,k b u hbe q⟩
end
def trk (h:Heap) (H:Hp):List Addr:=(av h.objs.size).filter fun a=>(H a).isSome
def aFt (h:Heap) (H:Hp):Heap:=PySem.W.hideAll h (trk h H)
theorem aDr (h:Heap)(H:Hp):(aFt h H).objs.size=h.objs.size:=PySem.W.hideAll_size _ _
theorem aES {h:Heap}{H:Hp}{b:Addr}{o:Obj}(e:h.get? b=some o)(n:H b=none):(aFt h H).get? b=some o:=
 xi _ e fun hm=>by
  have q:(H b).isSome=true:=(i8.mp hm).2
  rw[n] at q;simp at q
theorem aHu {h:Heap}{H:Hp}{b:Addr}{o:Obj}(e:(aFt h H).get? b=some o):h.get? b=some o/\H b=none:=by
 have e':h.get? b=some o:=PySem.W.of_hideAll (trk h H) e
 refine ⟨e',?_⟩
 cases q:H b with
 | none=>rfl
 | some x=>
  have hm:b∈trk h H:=i8.mpr ⟨gr.mpr (bo e'),by simp [q]⟩
  have z:(aFt h H).get? b=none:=PySem.W.hideAll_none (trk h H) hm
  rw[z] at e;cases e
structure Mod (K:aa)(mg:Str->Option Value)(base:Heap):Prop where
 kin:K.In base
 glob:base.Ns ar mg
 blt:∃ mb,base.Ns yg mb/\∀ x:Str,x≠"__name__"->mb x=d9 x
 nolimit:base.NoLimit
structure Cx where
 prog:Program
 w:World
 K:aa
 mg:Str->Option Value
 base:Heap
 A:Around
 N:List Str
 s₀:Shared
 H₀:Hp
 env:Env
 outer:List Env
 stack:List Env
 ex:List Addr
 fn:Str->Bool
 calm:Bool
 pn:List (Addr × Obj)
 xe:Value->Shared->Prop
def frs (l:List Env):List Addr:=l.filterMap (·.frame)
abbrev Cx.fs (X:Cx):List Addr:=frs X.outer
def Vis (sc:Scope) (x:Str):Prop:=sc.names.lookup x=some .local\/sc.names.lookup x=some .cell\/sc.names.lookup x=some .free
def Loc (sc:Scope) (x:Str):Prop:=sc.names.lookup x=some .local\/sc.names.lookup x=some .cell
def Look (env:Env) (h:Heap) (m:Str->Option Value) (x:Str) (u:Value):Prop:=
 (env.kindOf x=some .local/\m x=some u)\/((env.kindOf x=some .cell\/env.kindOf x=some .free)/\∃ c,env.cells.lookup x=some c/\h.IsCell c (some u))
structure Cx.Ok (X:Cx):Prop where
 mod:Mod X.K X.mg X.base
 kind:X.env.scope.kind = .function
 glob:X.env.globals=ar
 blt:X.env.builtins=yg
 above:X.s₀.heap.objs.size<=X.env.locals
 inj:∀ x y c,X.env.cells.lookup x=some c->X.env.cells.lookup y=some c->x=y
 has:∀ x,(X.env.kindOf x=some .cell\/X.env.kindOf x=some .free)->∃ c,X.env.cells.lookup x=some c
 cab:∀ x c,X.fn x=true->X.env.cells.lookup x=some c->X.s₀.heap.objs.size<=c
 hd:X.calm=true->X.A.handled=none
 frames:X.A.frames=some X.stack
 stk:X.stack=X.outer\/(X.stack=X.env :: X.outer/\X.env.frame=some X.env.locals)
 exf:∀ b∈X.ex,b≠X.env.locals/\∀ x c,X.env.cells.lookup x=some c->c≠b
 bs:∀ b o,X.base.get? b=some o->X.s₀.heap.get? b=some o/\X.H₀ b=none
 bsz:X.base.objs.size<=X.s₀.heap.objs.size
 noex:∀ b o,X.base.get? b=some o->b∉X.ex
 exfs:∀ b∈X.ex,b∉X.fs
 funs:X.s₀.heap.FunFrames X.base X.outer
 frf:∀ b∈X.fs,X.H₀ b=none
structure Inv (X:Cx)(pins:List (Addr × Obj))(σ:List (Option V))(H:Hp)(s:Shared):Prop where
 ok:X.Ok
 os:s.os=X.s₀.os
 bare:tm s.gens
 base:Un X.fs X.ex X.H₀ H X.s₀.heap s.heap
 loc:∃ m,s.heap.Ns X.env.locals m/\∀ (i:Nat) (x:Str) (v:V),X.N[i]?=some x->σ[i]?=some (some v)->Vis X.env.scope x->∃ u,RelV v u/\Look X.env s.heap m x u
 cell:∀ x c,X.env.cells.lookup x=some c->∃ v,s.heap.IsCell c v
 free:H X.env.locals=none
 freeC:∀ x c,X.env.cells.lookup x=some c->H c=none
 pin:∀ p∈X.pn++pins,s.heap.get? p.1=some p.2/\H p.1=none/\p.1≠X.env.locals/\p.1∉X.fs/\∀ v,p.2.data ≠ .cell v
 hok:HOk X.prog X.w H s.heap
 len:σ.length=X.N.length
section
variable {X:Cx}{pins:List (Addr × Obj)}{σ:List (Option V)}{H H':Hp}{s:Shared}{h':Heap}
theorem Cx.Ok.nofr (ok:X.Ok){b:Addr}{o:Obj}(e:X.base.get? b=some o):b∉X.fs:=fun hb=>by
 have:=(ok.funs.mem hb).1
 rw[e] at this;cases this
theorem Inv.bs (I:Inv X pins σ H s):∀ b o,X.base.get? b=some o->s.heap.get? b=some o/\H b=none:=fun b o e=>
 ⟨I.base.keep b o (I.ok.bs b o e).1 (I.ok.bs b o e).2 (I.ok.nofr e) (I.ok.noex b o e),I.base.free b o (I.ok.bs b o e).1 (I.ok.bs b o e).2 (I.ok.noex b o e)⟩
theorem Inv.bk (I:Inv X pins σ H s):∀ b o,X.base.get? b=some o->s.heap.get? b=some o:=fun b o e=>(I.bs b o e).1
theorem Inv.mod (I:Inv X pins σ H s):Mod X.K X.mg X.base:=I.ok.mod
theorem Inv.kIn (I:Inv X pins σ H s):X.K.In s.heap:=I.ok.mod.kin.keeps I.bk
theorem Inv.lt (I:Inv X pins σ H s):X.env.locals<s.heap.objs.size:=let ⟨_,hn,_⟩:=I.loc;hn.lt
theorem Inv.sz (I:Inv X pins σ H s):X.s₀.heap.objs.size<=s.heap.objs.size:=dg I.ok.above (gy I.lt)
theorem Inv.nofs (I:Inv X pins σ H s){a:Addr}(h:s.heap.objs.size<=a):a∉X.fs:=fun hb=>by
 obtain⟨_,o,ho,_⟩:=I.ok.funs.mem hb
 exact absurd (aw (bo ho) (dg I.sz h)) (jz _)
theorem Inv.cne (I:Inv X pins σ H s):∀ x c,X.env.cells.lookup x=some c->c≠X.env.locals:=fun x c e z=>by
 obtain⟨v,o,ho,hd⟩:=I.cell x c e
 obtain⟨m,⟨o',es,ep,ho',hd',_⟩,_⟩:=I.loc
 rw[z,ho'] at ho;cases ho;rw[hd'] at hd;cases hd
theorem Inv.funs (I:Inv X pins σ H s):s.heap.FunFrames X.base X.outer:=by
 have all:∀ (l:List Env),(∀ b∈frs l,b∈X.fs)->X.s₀.heap.FunFrames X.base l->s.heap.FunFrames X.base l:=by
  intro l
  induction l with
  | nil=>intro _ _;trivial
  | cons env r ih=>
   intro hs hl
   obtain⟨hk,⟨L,o,hf,hn,ho,hd⟩,hr⟩:=hl
   have hL:L∈X.fs:=hs L (by unfold frs;rw[qk,hf];exact dh)
   obtain⟨sl,e⟩:=I.base.slot L o ho (I.ok.frf L hL) hL fun z=>I.ok.exfs L z hL
   exact ⟨hk,⟨L,_,hf,hn,e,hd⟩,ih (fun b hb=>hs b (by unfold frs;rw[qk,hf];exact bu _ hb)) hr⟩
 exact all X.outer (fun _ hb=>hb) I.ok.funs
theorem Inv.stack (I:Inv X pins σ H s):s.heap.FunFrames X.base X.stack:=by
 rcases I.ok.stk with e | ⟨e,hf⟩
 ·rw[e];exact I.funs
 ·rw[e]
  obtain⟨m,hn,_⟩:=I.loc
  refine .cons (by rw[I.ok.kind];decide) hf hn ?_ I.funs
  exact Heap.get?_none_of_le (dg I.ok.bsz I.ok.above)
theorem Inv.stkSub (I:Inv X pins σ H s):∀ b∈frs X.stack,b∈X.env.locals :: X.fs:=fun b hb=>by
 rcases I.ok.stk with e | ⟨e,hf⟩
 ·rw[e] at hb;exact bu _ hb
 ·rw[e] at hb
  unfold frs at hb
  rw[qk,hf] at hb
  exact hb
theorem Inv.stkFree (I:Inv X pins σ H s):∀ b∈frs X.stack,H b=none:=fun b hb=>by
 rcases dk.mp (I.stkSub b hb) with e | hb
 ·rw[e];exact I.free
 ·obtain⟨_,o,ho,_⟩:=I.ok.funs.mem hb
  exact I.base.free b o ho (I.ok.frf b hb) fun z=>I.ok.exfs b z hb
theorem Inv.step {g':Array GenState}{t':Nat}{d':Drawn}{ch:List Addr}(I:Inv X pins σ H s)
  (hch:∀ b∈ch,(b∈X.ex\/X.s₀.heap.objs.size<=b)/\b≠X.env.locals/\(∀ x c,X.env.cells.lookup x=some c->c≠b)/\∀ p∈X.pn++pins,p.1≠b)
  (keep:∀ b o,b≠X.env.locals->b∉X.fs->b∉ch->s.heap.get? b=some o->H b=none->h'.get? b=some o)
  (slot:∀ b o,b≠X.env.locals->b∈X.fs->b∉ch->s.heap.get? b=some o->H b=none->∃ sl,h'.get? b=some { o with slots:=sl }) (free:∀ b o,b∉ch->s.heap.get? b=some o->H b=none->H' b=none)
  (there:∀ b o,b∉ch->s.heap.get? b=some o->∃ o',h'.get? b=some o')
  (tups:∀ b xs,H b=some (.tup xs)->H' b=some (.tup xs)) (frzs:∀ b o u,H b=some (.frz o u)->H' b=some (.frz o u)) (tbls:∀ b ps,H b=some (.tbl ps)->∃ more,H' b=some (.tbl (ps++more)))
  (ns:∀ m,s.heap.Ns X.env.locals m->h'.Ns X.env.locals m) (hok:HOk X.prog X.w H' h') (hg:tm g') :
  Inv X pins σ H' { s with heap:=h',gens:=g',drawn:=d',toks:=t' }:=by
 have neL:∀ b o,X.s₀.heap.get? b=some o->b≠X.env.locals:=fun b o e=>di (aw (bo e) I.ok.above)
 have neC:∀ b o,X.s₀.heap.get? b=some o->b∉X.ex->b∉ch:=fun b o e hx hb=>by
  rcases (hch b hb).1 with z | z
  ·exact hx z
  ·exact absurd (aw (bo e) z) (jz _)
 have cellK:∀ x c,X.env.cells.lookup x=some c->∀ v,s.heap.IsCell c v->h'.IsCell c v:=fun x c e v ⟨o,ho,hd⟩=>by
  have nch:c∉ch:=fun z=>(hch c z).2.2.1 x c e rfl
  by_cases hc:c∈X.fs
  ·obtain⟨sl,q⟩:=slot c o (I.cne x c e) hc nch ho (I.freeC x c e)
   exact ⟨_,q,hd⟩
  ·exact ⟨o,keep c o (I.cne x c e) hc nch ho (I.freeC x c e),hd⟩
 refine ⟨I.ok,I.os,hg,⟨fun b o e n hb hx=>?_,fun b o e n hb hx=>?_,fun b o e n hx=>?_,fun b o e hx=>?_,fun b xs e=>tups b xs (I.base.tups b xs e),fun b o xs e=>frzs b o xs (I.base.frzs b o xs e),fun b ps e=>?_⟩,?_,fun x c e=>?_,?_,fun x c e=>?_,fun p hp=>?_,hok,I.len⟩
 ·exact keep b o (neL b o e) hb (neC b o e hx) (I.base.keep b o e n hb hx) (I.base.free b o e n hx)
 ·obtain⟨sl,e1⟩:=I.base.slot b o e n hb hx
  obtain⟨sl',e2⟩:=slot b _ (neL b o e) hb (neC b o e hx) e1 (I.base.free b o e n hx)
  exact ⟨sl',e2⟩
 ·obtain⟨o',e1⟩:=I.base.there b o e hx
  exact free b o' (neC b o e hx) e1 (I.base.free b o e n hx)
 ·obtain⟨o',e1⟩:=I.base.there b o e hx
  exact there b o' (neC b o e hx) e1
 ·obtain⟨m1,e1⟩:=I.base.tbls b ps e
  obtain⟨m2,e2⟩:=tbls b _ e1
  exact ⟨m1++m2,by rw[e2,Array.append_assoc]⟩
 ·obtain⟨m,hn,hl⟩:=I.loc
  refine ⟨m,ns m hn,fun i x v e1 e2 e3=>?_⟩
  obtain⟨u,r,l⟩:=hl i x v e1 e2 e3
  refine ⟨u,r,?_⟩
  rcases l with l | ⟨k,c,e,z⟩
  ·exact .inl l
  ·exact .inr ⟨k,c,e,cellK x c e _ z⟩
 ·obtain⟨v,z⟩:=I.cell x c e
  exact ⟨v,cellK x c e v z⟩
 ·obtain⟨m,⟨o,_,_,ho,_⟩,_⟩:=I.loc
  exact free _ o (fun z=>(hch _ z).2.1 rfl) ho I.free
 ·obtain⟨v,o,ho,hd⟩:=I.cell x c e
  exact free c o (fun z=>(hch c z).2.2.1 x c e rfl) ho (I.freeC x c e)
 ·obtain⟨e,n,ne,nf,d⟩:=I.pin p hp
  have nch:p.1∉ch:=fun z=>(hch p.1 z).2.2.2 p hp rfl
  exact ⟨keep p.1 p.2 ne nf nch e n,free p.1 p.2 nch e n,ne,nf,d⟩
theorem Inv.un {t':Nat}(I:Inv X pins σ H s)(u:Un X.fs [] H H' s.heap h')(hok:HOk X.prog X.w H' h'):Inv X pins σ H' { s with heap:=h',toks:=t' }:=by
 obtain⟨m,⟨o,es,ep,ho,r⟩,_⟩:=id I.loc
 obtain⟨sl,hL⟩:=u.any ho I.free (by simp)
 exact I.step (g':=s.gens) (d':=s.drawn) (ch:=[]) (fun _ z=>nomatch z) (fun b o _ hb _ e n=>u.keep b o e n hb (by simp)) (fun b o _ hb _ e n=>u.slot b o e n hb (by simp)) (fun b o _ e n=>u.free b o e n (by simp)) (fun b o _ e=>u.there b o e (by simp)) u.tups u.frzs u.tbls (fun m' hm=>by
  obtain⟨o',es',ep',ho',r'⟩:=hm
  rw[ho] at ho';cases ho'
  exact ⟨_,es',ep',hL,r'⟩) hok I.bare
theorem Inv.call {g':Array GenState}{t':Nat}{d':Drawn}{ch:List Addr}(I:Inv X pins σ H s)(u:Un (frs X.stack) ch H H' s.heap h')(hok:HOk X.prog X.w H' h')(hg:tm g')
  (hch:∀ b∈ch,(b∈X.ex\/X.s₀.heap.objs.size<=b)/\b≠X.env.locals/\(∀ x c,X.env.cells.lookup x=some c->c≠b)/\∀ p∈X.pn++pins,p.1≠b) :
  Inv X pins σ H' { s with heap:=h',gens:=g',drawn:=d',toks:=t' }:=by
 obtain⟨m,⟨o,es,ep,ho,r⟩,_⟩:=id I.loc
 obtain⟨sl,hL⟩:=u.any ho I.free fun z=>(hch _ z).2.1 rfl
 exact I.step (ch:=ch) hch (fun b o hL hb hc e n=>u.keep b o e n (fun z=>(dk.mp (I.stkSub b z)).elim hL hb) hc) (fun b o _ _ hc e n=>u.any e n hc) (fun b o hc e n=>u.free b o e n hc) (fun b o hc e=>u.there b o e hc) u.tups u.frzs u.tbls (fun m' hm=>by
  obtain⟨o',es',ep',ho',r'⟩:=hm
  rw[ho] at ho';cases ho'
  exact ⟨_,es',ep',hL,r'⟩) hok hg
theorem Inv.turned {t':Nat}{it:Addr}(I:Inv X pins σ H s)(k:∀ b o,b≠it->s.heap.get? b=some o->h'.get? b=some o)(hn:H it=none)(hL:it≠X.env.locals)
  (h1:it∈X.ex\/X.s₀.heap.objs.size<=it) (h2:∀ x c,X.env.cells.lookup x=some c->c≠it) (h3:∀ p∈X.pn++pins,p.1≠it):Inv X pins σ H { s with heap:=h',toks:=t' }:=by
 have nit:∀ b u,H b=some u->b≠it:=fun b u e z=>by rw[z,hn] at e;cases e
 refine I.step (g':=s.gens) (d':=s.drawn) (ch:=[it]) (fun b hb=>?_) (fun b o _ _ hc e _=>k b o (fun z=>hc (by simp [z])) e) (fun b o _ _ hc e _=>⟨o.slots,k b o (fun z=>hc (by simp [z])) e⟩) (fun _ _ _ _ n=>n)
  (fun b o hc e=>⟨o,k b o (fun z=>hc (by simp [z])) e⟩) (fun _ _ e=>e) (fun _ _ _ e=>e) (fun b ps e=>⟨#[],by rw[e];simp⟩) (fun m hm=>?_) (fun b u e=>?_) I.bare
 ·have e:b=it:=by simpa using hb
  subst e
  exact ⟨h1,hL,h2,h3⟩
 ·obtain⟨o,es,ep,ho,r⟩:=hm
  exact ⟨o,es,ep,k _ o (ig hL) ho,r⟩
 ·refine (I.hok b u e).stay (fun c v hc q=>k c v ?_ q) (fun _ q=>q) fun _ _ q=>q
  rcases hc with z | z
  ·rw[z];exact nit b u e
  ·exact nit c _ z
theorem Inv.tok (I:Inv X pins σ H s)(t:Nat):Inv X pins σ H { s with toks:=t }:=I.un (h':=s.heap) (t':=t) Un.refl I.hok
theorem Inv.kept {t':Nat}(I:Inv X pins σ H s)(k:∀ b u,s.heap.get? b=some u->h'.get? b=some u):Inv X pins σ H { s with heap:=h',toks:=t' }:=I.un (Un.kept k) (I.hok.kept k)
theorem Inv.laid {a:Addr}{o:HO}{t':Nat}(I:Inv X pins σ H s)(k:∀ b u,s.heap.get? b=some u->h'.get? b=some u)(hp:s.heap.objs.size<=a)(new:ObjOk X.prog X.w (upd H a o) h' a o) :
  Inv X pins σ (upd H a o) { s with heap:=h',toks:=t' }:=I.un (Un.laid k hp (I.hok.fresh hp)) (I.hok.laid k hp new)
theorem Inv.write {x e:Addr}{o:HO}{t':Nat}(I:Inv X pins σ H s)(mu:Mut (H x))(he:e=x\/H e=some (.own x))(k:∀ b u,b≠e->s.heap.get? b=some u->h'.get? b=some u)(heo:∃ u,h'.get? e=some u)
  (new:ObjOk X.prog X.w (upd H x o) h' x o):Inv X pins σ (upd H x o) { s with heap:=h',toks:=t' }:=I.un (Un.write mu he k heo) (I.hok.write mu he k heo new)
theorem Inv.pins_of {pins':List (Addr × Obj)}(I:Inv X pins σ H s)(h:∀ p∈pins',s.heap.get? p.1=some p.2/\H p.1=none/\p.1≠X.env.locals/\p.1∉X.fs/\∀ v,p.2.data ≠ .cell v):Inv X pins' σ H s:=
 ⟨I.ok,I.os,I.bare,I.base,I.loc,I.cell,I.free,I.freeC,fun p hp=>(dv.mp hp).elim (fun z=>I.pin p (kc _ z)) (h p),I.hok,I.len⟩
theorem wU {N:List Str}(hN:N.Nodup){i j:Nat}{x:Str}(a:N[i]?=some x)(b:N[j]?=some x):i=j:=by
 obtain⟨h1,e1⟩:=ai.mp a
 obtain⟨h2,e2⟩:=ai.mp b
 exact (m8 hN).mp (e1.trans e2.symm)
theorem yZ {M:Model}{A:Around}{E:Value->Shared->Prop}{i:Nat}{x:Str}{v:V}{u:Value}{Q:Unit->Shared->Prop}(I:Inv X pins σ H s)(hN:X.N.Nodup)(hi:X.N[i]?=some x)(hx:Loc X.env.scope x)(r:RelV v u)
  (h:∀ s',Inv X pins (σ.set i (some v)) H s'->(∃ a,ij a s.heap s'.heap/\(a=X.env.locals\/X.env.cells.lookup x=some a))->Q () s') (hf:X.fn x=true\/X.env.scope.names.lookup x=some .local:=by first | exact .inl rfl | exact .inr rfl | assumption):wpAny M A (storeName X.env x u) Q E s:=by
 obtain⟨m,hn,hl⟩:=id I.loc
 have hcls:(X.env.scope.kind == .class || (X.env.scope.kind == .module && X.env.locals != X.env.globals))=false:=by rw[I.ok.kind];rfl
 have hiσ:i<σ.length:=by rw[I.len];exact (ai.mp hi).1
 have cne:=I.cne
 have tracked:∀ {a:Addr} {h':Heap},(∃ o,s.heap.get? a=some o/\H a=none)->ij a s.heap h'->HOk X.prog X.w H h':=fun {a h'} ha hs b ob e=>by
  obtain⟨_,_,hfree⟩:=ha
  refine (I.hok b ob e).stay (fun c w' hc q=>(hs.2 c ?_).trans q) (fun _ q=>q) fun _ _ q=>q
  rintro rfl
  rcases hc with rfl | hc
  ·rw[hfree] at e;cases e
  ·rw[hfree] at hc;cases hc
 rcases hx with hk | hk
 ·refine wpAny_storeName_local hk hn (fun h' hn' hs=>?_) hcls
  obtain⟨oL,_,_,hoL,_⟩:=id hn
  refine h _ ⟨I.ok,I.os,I.bare,⟨fun b o e n hb hx=>?_,fun b o e n hb hx=>?_,I.base.free,fun b o e hx=>?_,I.base.tups,I.base.frzs,I.base.tbls⟩,⟨_,hn',fun j y v' e1 e2 e3=>?_⟩,fun y c e=>?_,I.free,I.freeC,fun p hp=>?_,tracked ⟨oL,hoL,I.free⟩ hs,by simpa using I.len⟩ ⟨_,hs, .inl rfl⟩
  ·exact (hs.2 b (di (aw (bo e) I.ok.above))).trans (I.base.keep b o e n hb hx)
  ·obtain⟨sl,e1⟩:=I.base.slot b o e n hb hx
   exact ⟨sl,(hs.2 b (di (aw (bo e) I.ok.above))).trans e1⟩
  ·obtain⟨o',e1⟩:=I.base.there b o e hx
   exact ⟨o',(hs.2 b (di (aw (bo e) I.ok.above))).trans e1⟩
  ·by_cases hj:j=i
   ·subst hj
    rw[hi] at e1;cases e1
    rw[fw hiσ] at e2
    cases e2
    exact ⟨u,r, .inl ⟨hk,by simp⟩⟩
   ·rw[dn (ig hj)] at e2
    obtain⟨u',r',q⟩:=hl j y v' e1 e2 e3
    refine ⟨u',r',?_⟩
    rcases q with ⟨k,e⟩ | ⟨k,c,e,z⟩
    ·refine .inl ⟨k,?_⟩
     have:y≠x:=fun e=>hj (wU hN e1 (e ▸ hi))
     simp [this,e]
    ·exact .inr ⟨k,c,e,z.sameBut hs (cne y c e)⟩
  ·obtain⟨w',z⟩:=I.cell y c e
   exact ⟨w',z.sameBut hs (cne y c e)⟩
  ·obtain⟨e,n,ne,nf,d⟩:=I.pin p hp
   exact ⟨(hs.2 p.1 ne).trans e,n,ne,nf,d⟩
 ·have hfn:X.fn x=true:=by
   rcases hf with z | z
   ·exact z
   ·rw[z] at hk;cases hk
  obtain⟨c,hc⟩:=I.ok.has x (.inl hk)
  obtain⟨w',z⟩:=I.cell x c hc
  refine wpAny_storeName_cell I.ok.kind hk hc z (fun h' hc' hs=>?_)
  obtain⟨oc,hoc,hocd⟩:=id z
  refine h { s with heap:=h' } ⟨I.ok,I.os,I.bare,⟨fun b o e n hb hx=>?_,fun b o e n hb hx=>?_,I.base.free,fun b o e hx=>?_,I.base.tups,I.base.frzs,I.base.tbls⟩,⟨m,hn.sameBut hs (ig (cne x c hc)),fun j y v' e1 e2 e3=>?_⟩,fun y c' e=>?_,I.free,I.freeC,fun p hp=>?_,tracked ⟨oc,hoc,I.freeC x c hc⟩ hs,by simpa using I.len⟩ ⟨c,hs, .inr hc⟩
  ·exact (hs.2 b (di (aw (bo e) (I.ok.cab x c hfn hc)))).trans (I.base.keep b o e n hb hx)
  ·obtain⟨sl,e1⟩:=I.base.slot b o e n hb hx
   exact ⟨sl,(hs.2 b (di (aw (bo e) (I.ok.cab x c hfn hc)))).trans e1⟩
  ·obtain⟨o',e1⟩:=I.base.there b o e hx
   exact ⟨o',(hs.2 b (di (aw (bo e) (I.ok.cab x c hfn hc)))).trans e1⟩
  ·by_cases hj:j=i
   ·subst hj
    rw[hi] at e1;cases e1
    rw[fw hiσ] at e2
    cases e2
    exact ⟨u,r, .inr ⟨.inl hk,c,hc,hc'⟩⟩
   ·rw[dn (ig hj)] at e2
    obtain⟨u',r',q⟩:=hl j y v' e1 e2 e3
    refine ⟨u',r',?_⟩
    rcases q with q | ⟨k,c',e,z'⟩
    ·exact .inl q
    ·refine .inr ⟨k,c',e,z'.sameBut hs ?_⟩
     rintro rfl
     exact hj (wU hN e1 (I.ok.inj _ _ _ e hc ▸ hi))
  ·by_cases hcc:c'=c
   ·subst hcc;exact ⟨_,hc'⟩
   ·obtain⟨w2,z2⟩:=I.cell y c' e
    exact ⟨w2,z2.sameBut hs hcc⟩
  ·obtain⟨e,n,ne,nf,d⟩:=I.pin p hp
   refine ⟨(hs.2 p.1 ?_).trans e,n,ne,nf,d⟩
   intro q
   rw[q,hoc] at e
   have q':oc=p.2:=bf e
   exact d w' (by rw[<- q'];exact hocd)
theorem qO {M:Model}{A:Around}{E:Value->Shared->Prop}{i:Nat}{x:Str}{v:V}{u:Value}{Q:Unit->Shared->Prop}(I:Inv X pins σ H s)(hN:X.N.Nodup)(hi:X.N[i]?=some x)(hx:Loc X.env.scope x)(r:RelV v u)
  (h:∀ s',Inv X pins (σ.set i (some v)) H s'->Q () s') (hf:X.fn x=true\/X.env.scope.names.lookup x=some .local:=by first | exact .inl rfl | exact .inr rfl | assumption):wpAny M A (storeName X.env x u) Q E s:=
 yZ I hN hi hx r (fun s' I' _=>h s' I') hf
theorem Inv.call' {s':Shared}{ch:List Addr}(I:Inv X pins σ H s)(ho:s'.os=s.os)(u:Un (frs X.stack) ch H H' s.heap s'.heap)(hok:HOk X.prog X.w H' s'.heap)(hg:tm s'.gens)
  (hch:∀ b∈ch,(b∈X.ex\/X.s₀.heap.objs.size<=b)/\b≠X.env.locals/\(∀ x c,X.env.cells.lookup x=some c->c≠b)/\∀ p∈X.pn++pins,p.1≠b):Inv X pins σ H' s':=by
 obtain⟨h',g',d',t',o'⟩:=s'
 have e:o'=s.os:=ho
 subst e
 exact I.call (g':=g') (t':=t') (d':=d') u hok hg hch
end
abbrev XK:=Value->Option Addr->Hp->Prop
abbrev St:=List (Option V)
abbrev VK:=V->Hp->Prop
abbrev TE:=St->Hp->VK->Prop
abbrev TT:=St->Hp->(Bool->Hp->Prop)->Prop
abbrev TA:=St->Hp->(List V->Hp->Prop)->Prop
structure lO where
 nx:St->Hp->Prop
 rt:VK
 bk:St->Hp->Prop:=fun _ _=>False
 ct:St->Hp->Prop:=fun _ _=>False
abbrev TS:=lO->St->Hp->Prop
def EP (X:Cx) (pins:List (Addr × Obj)) (σ:St) (Q:VK) (u:Value) (s':Shared):Prop:=∃ v H',Inv X pins σ H' s'/\RelV v u/\Q v H'
def TP (X:Cx) (pins:List (Addr × Obj)) (σ:St) (Q:Bool->Hp->Prop) (b:Bool) (s':Shared):Prop:=∃ H',Inv X pins σ H' s'/\Q b H'
def AP (X:Cx) (pins:List (Addr × Obj)) (σ:St) (Q:List V->Hp->Prop) (us:List Value) (s':Shared):Prop:=∃ vs H',Inv X pins σ H' s'/\Vals vs us/\Q vs H'
def SP (X:Cx) (pins:List (Addr × Obj)) (D:lO) (f:Flow) (s':Shared):Prop:=
 match f with
 | .next=>∃ σ' H',Inv X pins σ' H' s'/\D.nx σ' H'
 | .brk=>∃ σ' H',Inv X pins σ' H' s'/\D.bk σ' H'
 | .cont=>∃ σ' H',Inv X pins σ' H' s'/\D.ct σ' H'
 | .ret u=>∃ v σ' H',Inv X pins σ' H' s'/\RelV v u/\D.rt v H'
def PE (X:Cx) (e:Expr) (t:TE):Prop:=
 ∀ (pins:List (Addr × Obj)) (s:Shared) (σ:St) (H:Hp) (Q:VK),Inv X pins σ H s->t σ H Q->wpAny (model X.prog X.w) X.A (eval e X.env) (EP X pins σ Q) X.xe s
def PT (X:Cx) (e:Expr) (t:TT):Prop:=
 ∀ (pins:List (Addr × Obj)) (s:Shared) (σ:St) (H:Hp) (Q:Bool->Hp->Prop),Inv X pins σ H s->t σ H Q->wpAny (model X.prog X.w) X.A (isTrue e X.env (eval e X.env)) (TP X pins σ Q) X.xe s
def PW (X:Cx) (e:Expr) (t:TT):Prop:=
 ∀ (whole:Sem Value) (pins:List (Addr × Obj)) (s:Shared) (σ:St) (H:Hp) (Q:Bool->Hp->Prop),Inv X pins σ H s->t σ H Q->wpAny (model X.prog X.w) X.A (isTrue e X.env whole) (TP X pins σ Q) X.xe s
theorem PW.pt {X:Cx}{e:Expr}{t:TT}(h:PW X e t):PT X e t:=h _
def PA (X:Cx) (es:List Expr) (t:TA):Prop:=
 ∀ (pos:Pos) (pins:List (Addr × Obj)) (s:Shared) (σ:St) (H:Hp) (Q:List V->Hp->Prop),Inv X pins σ H s->t σ H Q->wpAny (model X.prog X.w) X.A (spliced (rh pos (dz es X.env))) (AP X pins σ Q) X.xe s
def PS (X:Cx) (st:Stmt) (t:TS):Prop:=
 ∀ (pins:List (Addr × Obj)) (s:Shared) (σ:St) (H:Hp) (D:lO),Inv X pins σ H s->t D σ H->wpAny (model X.prog X.w) X.A (exec st X.env) (SP X pins D) X.xe s
def PSs (X:Cx) (st:List Stmt) (t:TS):Prop:=
 ∀ (pins:List (Addr × Obj)) (s:Shared) (σ:St) (H:Hp) (D:lO),Inv X pins σ H s->t D σ H->wpAny (model X.prog X.w) X.A (execs st X.env) (SP X pins D) X.xe s
theorem thn {α:Type}{t:Sem α}{Q Q':α->Shared->Prop}{M:Model}{A:Around}{E:Value->Shared->Prop}{s:Shared}(h:wpAny M A t Q E s)(hQ:∀ a s,Q a s->Q' a s):wpAny M A t Q' E s:=il h hQ fun _ _ x=>x
section
variable {X:Cx}
inductive aHJ (i:Nat) (σ:St) (H:Hp) (Q:VK):Prop
 | mk (v:V) (h:σ[i]?=some (some v)) (q:Q v H):aHJ i σ H Q
def aF (i:Nat):TE:=fun σ H Q=>aHJ i σ H Q
def tC (v:V):TE:=fun _ H Q=>Q v H
theorem aHU {i:Nat}{x:Str}{pos:Pos}(hN:X.N[i]?=some x)(hv:Vis X.env.scope x)(hd:(x == ("__debug__" : Str))=false:=by decide)(hcd:(x == ("__classdict__" : Str))=false:=by decide):PE X (.Name x pos) (aF i):=by
 intro pins s σ H Q I h
 obtain⟨v,e,h⟩:=h
 obtain⟨m,hn,hl⟩:=I.loc
 obtain⟨u,r,l⟩:=hl i x v hN e hv
 have fin:EP X pins σ Q u s:=⟨v,H,I,r,h⟩
 rcases l with ⟨hk,hm⟩ | ⟨hk,c,hc,hcell⟩
 ·exact wpAny_Name (wpAny_loadName_local I.ok.kind hk hn hm fin) hd
 ·rcases hk with hk | hk
  ·exact wpAny_Name (wpAny_loadName_cell I.ok.kind hk hc hcell fin) hd
  ·exact wpAny_Name (wpAny_loadName_free I.ok.kind hk hc hcell fin hcd) hd
theorem aI {i j pos}:PE X (.Constant (.int i) j pos) (tC (.int i)):=fun _ _ _ H _ I h=>wpAny_Constant_int ⟨.int i,H,I.tok _,⟨_,rfl⟩,h⟩
theorem mI {b j pos}:PE X (.Constant (.bool b) j pos) (tC (.bl b)):=fun _ _ _ H _ I h=>Constant_bool ⟨.bl b,H,I,rfl,h⟩
theorem rC {j pos}:PE X (.Constant .none j pos) (tC .non):=fun _ _ _ H _ I h=>Constant_none ⟨.non,H,I,rfl,h⟩
theorem lI {x j pos}:PE X (.Constant (.str x) j pos) (tC (.str x)):=fun _ _ _ H _ I h=>Calls.Constant_str ⟨.str x,H,I.tok _,⟨_,rfl⟩,h⟩
def Gl (X:Cx) (x:Str):Prop:=X.env.kindOf x=some .globalImplicit
theorem vU {E:Value->Shared->Prop}{pins:List (Addr × Obj)}{s:Shared}{σ:St}{H:Hp}{x:Str}{u:Value}{pos:Pos}{Q:Value->Shared->Prop}(I:Inv X pins σ H s)(hg:Gl X x)(hm:X.mg x=some u)(h:Q u s)
  (hd:(x == ("__debug__" : Str))=false:=by decide):wpAny (model X.prog X.w) X.A (eval (.Name x pos) X.env) Q E s:=
 rf I.ok.kind hg (Calls.loadGlobal_global (by rw[I.ok.glob];exact I.mod.glob.keeps I.bk) hm h) hd
theorem rH {E:Value->Shared->Prop}{pins:List (Addr × Obj)}{s:Shared}{σ:St}{H:Hp}{x:Str}{u:Value}{pos:Pos}{Q:Value->Shared->Prop}(I:Inv X pins σ H s)(hg:Gl X x)(hm:X.mg x=none)(hv:d9 x=some u)(h:Q u s)
  (hn:x≠"__name__":=by decide) (hd:(x == ("__debug__" : Str))=false:=by decide):wpAny (model X.prog X.w) X.A (eval (.Name x pos) X.env) Q E s:=by
 obtain⟨mb,h1,h2⟩:=I.mod.blt
 exact rf I.ok.kind hg (Calls.loadGlobal_builtin (by rw[I.ok.glob];exact I.mod.glob.keeps I.bk) hm (by rw[I.ok.blt];exact h1.keeps I.bk) ((h2 x hn).trans hv) h) hd
theorem dW {x:Str}{v:V}{u:Value}{pos:Pos}(hg:Gl X x)(hm:X.mg x=some u)(r:RelV v u)(hd:(x == ("__debug__" : Str))=false:=by decide):PE X (.Name x pos) (tC v):=
 fun _ _ _ H _ I h=>vU I hg hm ⟨v,H,I,r,h⟩ hd
theorem oH {x:Str}{v:V}{u:Value}{pos:Pos}(hg:Gl X x)(hm:X.mg x=none)(hv:d9 x=some u)(r:RelV v u)(hn:x≠"__name__":=by decide)(hd:(x == ("__debug__" : Str))=false:=by decide):PE X (.Name x pos) (tC v):=
 fun _ _ _ H _ I h=>rH I hg hm hv ⟨v,H,I,r,h⟩ hn hd
variable {a b:Expr}{ta tb:TE}{pos:Pos}
def tB (t:TE):TT:=fun σ H Q=>t σ H fun x H1=>∃ c,x = .bl c/\Q c H1
theorem eY {e:Expr}{t:TE}(h:PE X e t)(he:∀ whole,isTrue e X.env whole=(do let v <- whole;xj e.pos;vt [v] (truthy v)):=by intro _;rfl):PT X e (tB t):=by
 intro pins s σ H Q I hw
 refine isTrue_plain (thn (h pins s σ H _ I hw) fun v s1 ⟨x,H1,I1,r1,q1⟩=>?_) (he _)
 obtain⟨d,rfl,q⟩:=q1
 cases r1
 exact gp ⟨H1,I1,q⟩
variable {tA tB':TT}{rest:List Expr}
def aFR (t u:TT):TT:=fun σ H Q=>t σ H fun c H1=>if c=true then u σ H1 Q else Q false H1
def tOr (t u:TT):TT:=fun σ H Q=>t σ H fun c H1=>if c=true then Q true H1 else u σ H1 Q
def aAO (t:TT):TT:=fun σ H Q=>t σ H fun c H1=>Q (!c) H1
theorem sR (ha:PT X a tA):PW X (.BoolOp .And [a] pos) tA:=by
 intro wh pins s σ H Q I h
 refine isTrue_and (thn (ha pins s σ H Q I h) fun c s1 e=>?_)
 cases c with
 | true=>exact isTrue_and_nil e
 | false=>exact e
theorem jY (ha:PT X a tA):PW X (.BoolOp .Or [a] pos) tA:=by
 intro wh pins s σ H Q I h
 refine isTrue_or (thn (ha pins s σ H Q I h) fun c s1 e=>?_)
 cases c with
 | false=>exact isTrue_or_nil e
 | true=>exact e
theorem zE (ha:PT X a tA)(hb:PW X (.BoolOp .And (b :: rest) pos) tB'):PW X (.BoolOp .And (a :: b :: rest) pos) (aFR tA tB'):=by
 intro wh pins s σ H Q I h
 refine isTrue_and (thn (ha pins s σ H _ I h) fun c s1 ⟨H1,I1,q1⟩=>?_)
 cases c with
 | true=>exact hb wh pins s1 σ H1 Q I1 q1
 | false=>exact ⟨H1,I1,q1⟩
theorem mZ (ha:PT X a tA)(hb:PW X (.BoolOp .Or (b :: rest) pos) tB'):PW X (.BoolOp .Or (a :: b :: rest) pos) (tOr tA tB'):=by
 intro wh pins s σ H Q I h
 refine isTrue_or (thn (ha pins s σ H _ I h) fun c s1 ⟨H1,I1,q1⟩=>?_)
 cases c with
 | true=>exact ⟨H1,I1,q1⟩
 | false=>exact hb wh pins s1 σ H1 Q I1 q1
theorem iF (ha:PT X a tA):PT X (.UnaryOp .Not a pos) (aAO tA):=by
 intro pins s σ H Q I h
 exact isTrue_not (ha pins s σ H (fun c H1=>Q (!c) H1) I h)
def zC (ta tb:TE):TE:=fun σ H Q=>ta σ H fun x H1=>∃ c,x = .bl c/\if c=true then tb σ H1 Q else Q (.bl false) H1
def aKu (ta tb:TE):TE:=fun σ H Q=>ta σ H fun x H1=>∃ c,x = .bl c/\if c=true then Q (.bl true) H1 else tb σ H1 Q
def aIk (ta:TE):TE:=fun σ H Q=>ta σ H fun x H1=>∃ c,x = .bl c/\Q (.bl (!c)) H1
theorem pH {op}{t:TE}(h:PE X a t):PE X (.BoolOp op [a] pos) t:=fun pins s σ H Q I hw=>BoolOp_one (h pins s σ H Q I hw)
theorem rT (ha:PE X a ta)(hb:PE X (.BoolOp .And (b :: rest) pos) tb):PE X (.BoolOp .And (a :: b :: rest) pos) (zC ta tb):=by
 intro pins s σ H Q I h
 refine BoolOp_and (thn (ha pins s σ H _ I h) fun v s1 ⟨x,H1,I1,r1,q1⟩=>?_)
 obtain⟨c,rfl,q1⟩:=q1
 cases r1
 refine gp ?_
 cases c with
 | true=>exact hb pins s1 σ H1 Q I1 q1
 | false=>exact ⟨.bl false,H1,I1,rfl,q1⟩
theorem aJp (ha:PE X a ta)(hb:PE X (.BoolOp .Or (b :: rest) pos) tb):PE X (.BoolOp .Or (a :: b :: rest) pos) (aKu ta tb):=by
 intro pins s σ H Q I h
 refine BoolOp_or (thn (ha pins s σ H _ I h) fun v s1 ⟨x,H1,I1,r1,q1⟩=>?_)
 obtain⟨c,rfl,q1⟩:=q1
 cases r1
 refine gp ?_
 cases c with
 | false=>exact hb pins s1 σ H1 Q I1 q1
 | true=>exact ⟨.bl true,H1,I1,rfl,q1⟩
theorem aJo (ha:PE X a ta):PE X (.UnaryOp .Not a pos) (aIk ta):=by
 intro pins s σ H Q I h
 refine UnaryOp_ (thn (ha pins s σ H _ I h) fun v s1 ⟨x,H1,I1,r1,q1⟩=>?_)
 obtain⟨c,rfl,q1⟩:=q1
 cases r1
 exact not_of (gp ⟨.bl (!c),H1,I1,rfl,q1⟩)
def tIf (t:TT) (ta tb:TE):TE:=fun σ H Q=>t σ H fun c H1=>if c=true then ta σ H1 Q else tb σ H1 Q
theorem aBd {c:Expr}(hc:PT X c tA)(ha:PE X a ta)(hb:PE X b tb):PE X (.IfExp c a b pos) (tIf tA ta tb):=by
 intro pins s σ H Q I h
 refine wpAny_IfExp (thn (hc pins s σ H _ I h) fun d s1 ⟨H1,I1,q1⟩=>?_)
 cases d with
 | true=>exact ha pins s1 σ H1 Q I1 q1
 | false=>exact hb pins s1 σ H1 Q I1 q1
end
def SqL (K:aa) (H:Hp) (a:Addr) (xs:List V):Prop:=
 Rd H a (.lst xs) \/
  ∃ (o:Obj) (its:Array Value) (n:Nat),K.lookup a=some o/\o.cls = .type "list"/\o.dict=none/\o.data = .seq its n/\its.size<=ba/\Vals xs its.toList
def SqT (K:aa) (H:Hp) (a:Addr) (xs:List V):Prop:=
 Rd H a (.tup xs) \/
  ∃ (o:Obj) (its:Array Value) (n:Nat),K.lookup a=some o/\o.cls = .type "tuple"/\o.dict=none/\o.data = .seq its n/\its.size<=ba/\Vals xs its.toList
def aLR:Value->Option V
 | .none=>some .non
 | .bool b=>some (.bl b)
 | .int i _=>some (.int i)
 | .str x _=>some (.str x)
 | .bytes b _=>some (.byt b)
 | .float b _=>some (.flt b)
 | .ref a=>some (.ref a)
 | .type n=>some (.ty n)
 | _=>none
theorem RelV.abs {x:V}{u:Value}(r:RelV x u):aLR u=some x:=by
 cases x with
 | non=>cases r;rfl
 | bl _=>cases r;rfl
 | int _=>obtain⟨t,rfl⟩:=r;rfl
 | str _=>obtain⟨t,rfl⟩:=r;rfl
 | byt _=>obtain⟨t,rfl⟩:=r;rfl
 | flt _=>obtain⟨t,rfl⟩:=r;rfl
 | ref _=>cases r;rfl
 | ty _=>cases r;rfl
theorem RelV.inj {x y:V}{u:Value}(r:RelV x u)(q:RelV y u):x=y:=bf (r.abs.symm.trans q.abs)
theorem Vals.inj:∀ {xs ys:List V} {us:List Value},Vals xs us->Vals ys us->xs=ys
 | _,_,_, .nil, .nil=>rfl
 | _,_,_, .cons r t, .cons r' t'=>by rw[r.inj r',Vals.inj t t']
section
variable {X:Cx}{pins:List (Addr × Obj)}{σ:St}{H:Hp}{s:Shared}{a:Addr}{xs ys:List V}
theorem SqL.of {K:aa}(h:H a=some (.lst xs)):SqL K H a xs := .inl (.inl h)
theorem SqT.of {K:aa}(h:H a=some (.tup xs)):SqT K H a xs := .inl (.inl h)
theorem Inv.list (I:Inv X pins σ H s)(h:SqL X.K H a xs):∃ its:List Value,Vals xs its/\PlainL s.heap a its.toArray/\xs.length<=ba:=by
 rcases h with h | ⟨o,its,n,hk,hc,hd,hs,hz,r⟩
 ·obtain⟨z,its,n,r,e⟩:=h.ok I.hok
  exact ⟨its,r,⟨_,n,e,rfl,rfl,rfl⟩,z⟩
 ·refine ⟨its.toList,r,⟨o,n,I.kIn a o hk,hc,hd,by simpa using hs⟩,?_⟩
  have e:=r.length
  simp only [dw] at e
  omega
theorem Inv.tuple (I:Inv X pins σ H s)(h:SqT X.K H a xs):∃ its:List Value,Vals xs its/\IsTup s.heap a its.toArray/\xs.length<=ba:=by
 rcases h with h | ⟨o,its,n,hk,hc,_,hs,hz,r⟩
 ·obtain⟨z,its,r,p⟩:=h.ok I.hok
  exact ⟨its,r,p.tup,z⟩
 ·refine ⟨its.toList,r,⟨o,I.kIn a o hk,hc,n,by simpa using hs⟩,?_⟩
  have e:=r.length
  simp only [dw] at e
  omega
theorem Inv.list_inj (I:Inv X pins σ H s)(h:SqL X.K H a xs)(h':SqL X.K H a ys):xs=ys:=by
 obtain⟨its,r,⟨o,n,e,_,_,d⟩,_⟩:=I.list h
 obtain⟨its',r',⟨o',n',e',_,_,d'⟩,_⟩:=I.list h'
 rw[e] at e';cases e'
 rw[d] at d'
 injection d' with d1 _
 have:its=its':=by simpa using congrArg yn d1
 subst this
 exact r.inj r'
theorem Inv.tuple_inj (I:Inv X pins σ H s)(h:SqT X.K H a xs)(h':SqT X.K H a ys):xs=ys:=by
 obtain⟨its,r,⟨o,e,_,n,d⟩,_⟩:=I.tuple h
 obtain⟨its',r',⟨o',e',_,n',d'⟩,_⟩:=I.tuple h'
 rw[e] at e';cases e'
 rw[d] at d'
 injection d' with d1 _
 have:its=its':=by simpa using congrArg yn d1
 subst this
 exact r.inj r'
end
abbrev Cx.wish (X:Cx) (E:Value->Shared->Prop):Cx:={ X with xe:=E }
abbrev Cx.nox (X:Cx):Cx:=X.wish fun _ _=>False
theorem Cx.Ok.wish {X:Cx}(ok:X.Ok)(E:Value->Shared->Prop):(X.wish E).Ok:=
 ⟨ok.mod,ok.kind,ok.glob,ok.blt,ok.above,ok.inj,ok.has,ok.cab,ok.hd,ok.frames,ok.stk,ok.exf,ok.bs,ok.bsz,ok.noex,ok.exfs,ok.funs,ok.frf⟩
theorem Cx.Ok.unwish {X:Cx}{E:Value->Shared->Prop}(ok:(X.wish E).Ok):X.Ok:=
 ⟨ok.mod,ok.kind,ok.glob,ok.blt,ok.above,ok.inj,ok.has,ok.cab,ok.hd,ok.frames,ok.stk,ok.exf,ok.bs,ok.bsz,ok.noex,ok.exfs,ok.funs,ok.frf⟩
section
variable {X:Cx}{pins:List (Addr × Obj)}{σ:St}{H:Hp}{s:Shared}{E:Value->Shared->Prop}
theorem Inv.wish (I:Inv X pins σ H s)(E:Value->Shared->Prop):Inv (X.wish E) pins σ H s:=⟨I.ok.wish E,I.os,I.bare,I.base,I.loc,I.cell,I.free,I.freeC,I.pin,I.hok,I.len⟩
theorem Inv.unwish (I:Inv (X.wish E) pins σ H s):Inv X pins σ H s:=⟨I.ok.unwish,I.os,I.bare,I.base,I.loc,I.cell,I.free,I.freeC,I.pin,I.hok,I.len⟩
theorem SP.unwish {D:lO}{f:Flow}{s':Shared}(h:SP (X.wish E) pins D f s'):SP X pins D f s':=by
 cases f with
 | next=>obtain⟨σ',H',I,q⟩:=h;exact ⟨σ',H',I.unwish,q⟩
 | brk=>obtain⟨σ',H',I,q⟩:=h;exact ⟨σ',H',I.unwish,q⟩
 | cont=>obtain⟨σ',H',I,q⟩:=h;exact ⟨σ',H',I.unwish,q⟩
 | ret u=>obtain⟨v,σ',H',I,r,q⟩:=h;exact ⟨v,σ',H',I.unwish,r,q⟩
theorem PT.nox {e:Expr}{t:TT}(h:PT X.nox e t):PT X e t:=fun pins s σ H Q I hw=>
 il (h pins s σ H Q (I.wish _) hw) (fun _ _ ⟨H',I',q⟩=>⟨H',I'.unwish,q⟩) fun _ _ z=>ju z
theorem PSs.nox {st:List Stmt}{t:TS}(h:PSs X.nox st t):PSs X st t:=fun pins s σ H D I hw=>
 il (h pins s σ H D (I.wish _) hw) (fun _ _ q=>q.unwish) fun _ _ z=>ju z
end
section
variable {X:Cx}{st:Stmt}{rest:List Stmt}{t u:TS}{e:Expr}{te:TE}{pos:Pos}
def aL:TS:=fun D σ H=>D.nx σ H
def aP (t u:TS):TS:=fun D σ H=>t { D with nx:=u D } σ H
theorem aH:PSs X [] aL:=fun _ _ σ H _ I h=>ql ⟨σ,H,I,h⟩
theorem aA (h1:PS X st t)(h2:PSs X rest u):PSs X (st :: rest) (aP t u):=by
 intro pins s σ H D I h
 refine wpAny_execs_cons (thn (h1 pins s σ H { D with nx:=u D } I h) fun f s1 q=>?_)
 cases f with
 | next=>
  obtain⟨σ',H',I',q⟩:=q
  exact h2 pins s1 σ' H' D I' q
 | ret v=>exact q
 | brk=>exact q
 | cont=>exact q
theorem Inv.quiet {pins:List (Addr × Obj)}{σ:St}{H:Hp}{s:Shared}(I:Inv X pins σ H s):interactive X.env=false:=by simp [interactive,I.ok.kind]
def nP (te:TE):TS:=fun D σ H=>te σ H fun _ H1=>D.nx σ H1
theorem gO (he:PE X e te)(hs:swapsWith e none pos.line X.env=pure false:=by rfl):PS X (.Expr e pos) (nP te):=by
 intro pins s σ H D I h
 exact wpAny_Expr_any (thn (he pins s σ H _ I h) fun v s1 ⟨x,H1,I1,r1,q1⟩=>⟨σ,H1,I1,q1⟩) I.quiet hs
def eK (te:TE):TS:=fun D σ H=>te σ H D.rt
theorem bL (he:PE X e te):PS X (.Return (some e) pos) (eK te):=by
 intro pins s σ H D I h
 exact wpAny_Return_some (thn (he pins s σ H _ I h) fun v s1 ⟨x,H1,I1,r1,q1⟩=>⟨x,σ,H1,I1,r1,q1⟩)
def fV (c:TT) (t u:TS):TS:=fun D σ H=>c σ H fun b H1=>if b=true then t D σ H1 else u D σ H1
theorem eL {c:Expr}{a b:List Stmt}{tc:TT}(hc:PT X c tc)(ha:PSs X a t)(hb:PSs X b u):PS X (.If c a b pos) (fV tc t u):=by
 intro pins s σ H D I h
 refine wpAny_If (thn (hc pins s σ H _ I h) fun d s1 ⟨H1,I1,q1⟩=>?_)
 cases d with
 | true=>exact ha pins s1 σ H1 D I1 q1
 | false=>exact hb pins s1 σ H1 D I1 q1
end
abbrev TG:=V->St->Hp->(St->Hp->Prop)->Prop
abbrev TGs:=List V->St->Hp->(St->Hp->Prop)->Prop
def PG (X:Cx) (target:Expr) (t:TG):Prop:=
 ∀ (pins:List (Addr × Obj)) (s:Shared) (σ:St) (H:Hp) (v:V) (u:Value) (Q:St->Hp->Prop),Inv X pins σ H s->RelV v u->t v σ H Q ->
  wpAny (model X.prog X.w) X.A (yo target X.env u) (fun _ s'=>∃ σ' H',Inv X pins σ' H' s'/\Q σ' H') X.xe s
def PGs (X:Cx) (ts:List Expr) (t:TGs):Prop:=
 ∀ (pins:List (Addr × Obj)) (s:Shared) (σ:St) (H:Hp) (vs:List V) (us:List Value) (Q:St->Hp->Prop),Inv X pins σ H s->Vals vs us->t vs σ H Q ->
  wpAny (model X.prog X.w) X.A (assignInOrder ((oq ts X.env).map (·.2)) us) (fun _ s'=>∃ σ' H',Inv X pins σ' H' s'/\Q σ' H') X.xe s
abbrev aKK:=V->V->V->Hp->(Hp->Prop)->Prop
def aLx (X:Cx) (t:aKK):Prop:=
 ∀ (pins:List (Addr × Obj)) (s:Shared) (σ:St) (H:Hp) (o i v:V) (ov iv u:Value) (Q:Hp->Prop),Inv X pins σ H s->RelV o ov->RelV i iv->RelV v u->t o i v H Q ->
  wpAny (model X.prog X.w) X.A (setItem ov iv u) (fun _ s'=>∃ H',Inv X pins σ H' s'/\Q H') X.xe s
section
variable {X:Cx}{pos:Pos}
def aK (i:Nat):TG:=fun v σ H Q=>Q (σ.set i (some v)) H
theorem aM {i:Nat}{x:Str}(hN:X.N.Nodup)(hi:X.N[i]?=some x)(hx:Loc X.env.scope x)(hf:X.fn x=true\/X.env.scope.names.lookup x=some .local:=by first | exact .inl rfl | exact .inr rfl | assumption):PG X (.Name x pos) (aK i):=by
 intro pins s σ H v u Q I r h
 exact wpAny_assign_Name (qO I hN hi hx r (fun s' I'=>⟨_,H,I',h⟩) hf)
def qC:TGs:=fun vs σ H Q=>vs=[]/\Q σ H
def cP (t:TG) (u:TGs):TGs:=fun vs σ H Q=>∃ v r,vs=v :: r/\t v σ H fun σ' H'=>u r σ' H' Q
theorem cV:PGs X [] qC:=by
 intro pins s σ H vs us Q I r h
 obtain⟨e,h⟩:=h
 subst e
 cases r
 exact assignInOrder_nil ⟨σ,H,I,h⟩
theorem aR {e:Expr}{es:List Expr}{t:TG}{u:TGs}(h1:PG X e t)(h2:PGs X es u)
  (hs:(oq (e :: es) X.env).map (·.2)=yo e X.env :: (oq es X.env).map (·.2):=by rfl):PGs X (e :: es) (cP t u):=by
 intro pins s σ H vs us Q I r h
 obtain⟨v,vr,e1,h⟩:=h
 subst e1
 cases r with
 | cons r rr=>
  rw[hs]
  refine assignInOrder_cons (thn (h1 pins s σ H _ _ _ I r h) fun _ s1 ⟨σ1,H1,I1,q1⟩=>?_)
  exact h2 pins s1 σ1 H1 _ _ Q I1 rr q1
def pE (K:aa) (n:Nat) (t:TGs):TG:=fun v σ H Q=>∃ a xs,v = .ref a/\SqT K H a xs/\xs.length=n/\t xs σ H Q
theorem aJy {es:List Expr}{k:Nat}{t:TGs}{n:Nat}(hc:X.calm=true)(h:PGs X es t)
  (hn:(oq es X.env).length=n:=by rfl) (hst:(oq es X.env).findIdx? (·.1)=none:=by rfl):PG X (.Tuple es k pos) (pE X.K n t):=by
 intro pins s σ H v u Q I r hw
 obtain⟨a,xs,e1,hq,hl,hw⟩:=hw
 subst e1
 cases r
 obtain⟨its,rv,ht,hz⟩:=I.tuple hq
 refine assign_Tuple_tuple (I.ok.hd hc) ht (by simp [hn,<- hl,rv.length]) hst fun h' hx=>?_
 have I1:Inv X pins σ H { s with heap:=h' }:=I.kept (t':=s.toks) fun b o e=>hx b o (di (bo e)) e
 exact h pins _ σ H xs _ Q I1 (by simpa using rv) hw
def oB (to ti:TE) (t:aKK):TG:=fun v σ H Q=>to σ H fun o H1=>ti σ H1 fun i H2=>t o i v H2 fun H3=>Q σ H3
theorem mH {o i:Expr}{to ti:TE}{t:aKK}(ho:PE X o to)(hi:PE X i ti)(hs:aLx X t)
  (ha:∀ v,yo (.Subscript o i pos) X.env v=(do
   let ov <- vt [v] (eval o X.env)
   let iv <- vt [v,ov] (eval i X.env)
   xj pos
   vt [v,ov,iv] (setItem ov iv v)
   release [v,ov,iv] []):=by intro _;rfl):PG X (.Subscript o i pos) (oB to ti t):=by
 intro pins s σ H v u Q I r h
 rw[ha]
 refine ae (ft (thn (ho pins s σ H _ I h) fun ov s1 ⟨x,H1,I1,r1,q1⟩=>?_))
 refine ae (ft (thn (hi pins s1 σ H1 _ I1 q1) fun iv s2 ⟨y,H2,I2,r2,q2⟩=>?_))
 refine ae (qd (ae (ft (thn (hs pins s2 σ H2 x y v ov iv u _ I2 r1 r2 r q2) fun _ s3 ⟨H3,I3,q3⟩=>?_))))
 exact wpAny_release ⟨σ,H3,I3,q3⟩
def bW (te:TE) (g:TG):TS:=fun D σ H=>te σ H fun x H1=>g x σ H1 D.nx
theorem gY {tg e:Expr}{te:TE}{g:TG}(he:PE X e te)(hg:PG X tg g)(hs:swapsWithSole [tg] e pos.line X.env=pure false:=by rfl)(hw:swappedStores [tg] e X.env=pure none:=by rfl)
  (h1:(oq [tg] X.env).map (·.2)=[yo tg X.env]:=by rfl):PS X (.Assign [tg] e pos) (bW te g):=by
 intro pins s σ H D I h
 refine wpAny_Assign_stores (thn (he pins s σ H _ I h) fun v s1 ⟨x,H1,I1,r1,q1⟩=>?_) hs hw
 rw[h1]
 exact thn (hg pins s1 σ H1 x v _ I1 r1 q1) fun _ s2 q=>q
theorem aY {i:Nat}{x:Str}{e:Expr}{te:TE}{pos':Pos}(hN:X.N.Nodup)(hi:X.N[i]?=some x)(hx:Loc X.env.scope x)(he:PE X e te)(hs:swapsWith e (some (.Name x pos')) pos.line X.env=pure false:=by rfl)(hf:X.fn x=true\/X.env.scope.names.lookup x=some .local:=by first | exact .inl rfl | exact .inr rfl | assumption) :
  PS X (.Assign [.Name x pos'] e pos) (bW te (aK i)):=by
 intro pins s σ H D I h
 refine wpAny_Assign_Name (thn (he pins s σ H _ I h) fun v s1 ⟨y,H1,I1,r1,q1⟩=>?_) hs
 exact qO I1 hN hi hx r1 (fun s2 I2=>⟨_,H1,I2,q1⟩) hf
end
section
variable {X:Cx}{pos:Pos}
def aDm (c:TT) (tb:TS):TS:=fun D σ H=>∃ W:Nat->St->Hp->Prop,(∃ m,W m σ H)/\∀ m σ H,W m σ H ->
 c σ H fun b H1=>if b=true then ∃ N:St->Hp->Prop,(∀ σ' H',N σ' H'->∃ m',m'<m/\W m' σ' H')/\tb { D with nx:=N,ct:=N,bk:=D.nx } σ H1 else D.nx σ H1
theorem aBN {c:Expr}{body:List Stmt}{tc:TT}{tb:TS}(hp:PassesOwn (model X.prog X.w) X.A X.env X.xe)(hc:PT X c tc)(hb:PSs X body tb):PS X (.While c body [] pos) (aDm tc tb):=by
 intro pins s σ H D I h
 obtain⟨W,⟨m0,w0⟩,turn⟩:=h
 refine wpAny_While (codeAny_whileLoop (fun n s'=>∃ σ' H',Inv X pins σ' H' s'/\W n σ' H') ?_ m0 ⟨σ,H,I,w0⟩)
 rintro n s1 ⟨σ1,H1,I1,w1⟩
 refine kg hp (thn (hc pins s1 σ1 H1 _ I1 (turn n σ1 H1 w1)) fun b s2 ⟨H2,I2,q2⟩=>?_)
 cases b with
 | true=>
  obtain⟨N,hN,q2⟩:=q2
  rw[if_pos rfl]
  refine kg hp (thn (hb pins s2 σ1 H2 _ I2 q2) fun f s3 q3=>?_)
  cases f with
  | next=>
   obtain⟨σ3,H3,I3,n3⟩:=q3
   obtain⟨m',hm,w3⟩:=hN σ3 H3 n3
   exact ⟨m',hm,σ3,H3,I3,w3⟩
  | cont=>
   obtain⟨σ3,H3,I3,n3⟩:=q3
   obtain⟨m',hm,w3⟩:=hN σ3 H3 n3
   exact ⟨m',hm,σ3,H3,I3,w3⟩
  | brk=>exact q3
  | ret v=>exact q3
 | false=>
  rw[if_neg br]
  exact ql ⟨σ1,H2,I2,q2⟩
end
structure It where
 go:Nat->Hp->Prop
 yld:Nat->Hp->V->Hp->Prop
 stop:Nat->Hp->Prop
def FpOk (X:Cx) (pins:List (Addr × Obj)) (H:Hp) (b:Addr):Prop:=
 H b=none/\b≠X.env.locals/\b∉X.fs/\(b∈X.ex\/X.s₀.heap.objs.size<=b)/\(∀ x c,X.env.cells.lookup x=some c->c≠b)/\∀ p∈X.pn++pins,p.1≠b
theorem Inv.fpOk {X:Cx}{pins:List (Addr × Obj)}{σ:St}{H H':Hp}{s:Shared}{b:Addr}(I:Inv X pins σ H s)(hb:s.heap.objs.size<=b)(hn:H' b=none):FpOk X pins H' b:=by
 refine ⟨hn,jk (aw I.lt hb),I.nofs hb, .inr (dg I.sz hb),fun x c e z=>?_,fun p hp z=>?_⟩
 ·obtain⟨v,q⟩:=I.cell x c e
  exact absurd (aw q.lt (by rw[z];exact hb)) (jz _)
 ·exact absurd (aw (bo (I.pin p hp).1) (by rw[z];exact hb)) (jz _)
structure aGi (P:Program)(w:World)(K:aa)(tg:Expr)(J:It)(fp:List Addr)(it:Addr)(tn:Nat->Heap->Prop):Prop where
 mem:it∈fp
 obj:∀ i h,tn i h->∀ b∈fp,∃ o,h.get? b=some o/\∀ v,o.data ≠ .cell v
 keep:∀ i h h',tn i h->(∀ b∈fp,∀ o,h.get? b=some o->h'.get? b=some o)->tn i h'
 item:∀ (X:Cx),X.prog=P->X.w=w->X.K=K->X.calm=true->∀ (i:Nat) (pins:List (Addr × Obj)) (s:Shared) (σ:St) (H:Hp) (E:Value->Shared->Prop),Inv X pins σ H s->(∀ b∈fp,FpOk X pins H b)->tn i s.heap->J.go i H ->
  wpAny (model P w) X.A (vf (.ref it)) (fun r s1=>∃ u,r=some u /\
   wpAny (model P w) X.A (qm tg (.ref it) u) (fun _ s2=>∃ x H',Inv X pins σ H' s2/\RelV x u/\J.yld i H x H'/\tn (i+1) s2.heap/\∀ b∈fp,H' b=none) E s1) E s
 done:∀ (X:Cx),X.prog=P->X.w=w->X.K=K->X.calm=true->∀ (i:Nat) (pins:List (Addr × Obj)) (s:Shared) (σ:St) (H:Hp) (E:Value->Shared->Prop),Inv X pins σ H s->(∀ b∈fp,FpOk X pins H b)->tn i s.heap->J.stop i H ->
  wpAny (model P w) X.A (vf (.ref it)) (fun r s1=>r=none/\Inv X pins σ H s1) E s
 self:∀ (A:Around) (i:Nat) (s:Shared) (Q:Value->Shared->Prop) (E:Value->Shared->Prop),tn i s.heap->Q (.ref it) s->wpAny (model P w) A (y9 (.ref it)) Q E s
abbrev TI:=St->Hp->(It->Hp->Prop)->Prop
def PIE (X:Cx) (pins:List (Addr × Obj)) (σ:St) (tg:Expr) (R:It->Hp->Prop) (itv:Value) (s2:Shared):Prop:=
 ∃ (it:Addr) (fp:List Addr) (tn:Nat->Heap->Prop) (J:It) (H':Hp),itv = .ref it/\Inv X pins σ H' s2/\aGi X.prog X.w X.K tg J fp it tn/\tn 0 s2.heap/\(∀ b∈fp,FpOk X pins H' b)/\R J H'
def PI (X:Cx) (tg iter:Expr) (wi:TI):Prop:=
 ∀ (pins:List (Addr × Obj)) (s:Shared) (σ:St) (H:Hp) (R:It->Hp->Prop),Inv X pins σ H s->wi σ H R ->
  wpAny (model X.prog X.w) X.A (eval iter X.env) (fun v s1=>wpAny (model X.prog X.w) X.A (y9 v) (PIE X pins σ tg R) X.xe s1) X.xe s
theorem aHm {M : Model} {A : Around} {E : Value -> Shared -> Prop} {s : Shared} {tg : Expr} {it : Addr} {u : Value} {o : Obj} {n : String} {vs : Array Value} {Q : Unit -> Shared -> Prop} (ho : s.heap.get? it = some o) (hc : o.cls = .type n) (hd : o.data = .fields vs)
    (hn : ["enumerate", "zip", "dict_itemiterator", "dict_reverseitemiterator", "odict_iterator", "itertools.zip_longest", "itertools.pairwise"].contains n = false) (hQ : Q () s) : wpAny M A (qm tg (.ref it) u) Q E s := by
  unfold qm
  cases tg <;> first
    | exact ak hQ
    | (cases u <;> first
        | exact ak hQ
        | (refine ae (wpAny_load ho ?_)
           rw[hc, hd]
           show wpAny M A (if (["enumerate", "zip", "dict_itemiterator", "dict_reverseitemiterator", "odict_iterator", "itertools.zip_longest", "itertools.pairwise"].contains n && vs[0]? == some (js _)) = true then _ else _) Q E s
           rw[if_neg (by intro h; rw[hn, gu] at h; cases h)]
           exact ak hQ))
def Itl (K:aa) (a:Addr):It:=
 ⟨fun i H=>∃ xs x,SqL K H a xs/\xs[i]?=some x,fun i H x H'=>H'=H/\∀ xs,SqL K H a xs->xs[i]?=some x,fun i H=>∃ xs,SqL K H a xs/\xs.length<=i⟩
def Itt (K:aa) (a:Addr):It:=
 ⟨fun i H=>∃ xs x,SqT K H a xs/\xs[i]?=some x,fun i H x H'=>H'=H/\∀ xs,SqT K H a xs->xs[i]?=some x,fun i H=>∃ xs,SqT K H a xs/\xs.length<=i⟩
def Itr (lo:Int) (n:Nat):It:=⟨fun i _=>i<n,fun i H x H'=>H'=H/\x = .int (lo+i),fun i _=>n<=i⟩
theorem aDD {P:Program}{w:World}{K:aa}{tg:Expr}(a it:Addr):aGi P w K tg (Itl K a) [it] it (fun i h=>h.IsListIter it a i) where
 mem:=by simp
 obj:=fun i h st b hb=>by
  have e:b=it:=by simpa using hb
  subst e
  obtain⟨o,e,c,d⟩:=st
  exact ⟨o,e,fun v z=>by rw[d] at z;cases z⟩
 keep:=fun i h h' st k=>st.at fun o e=>k it (by simp) o e
 item:=by
  intro X hP hw hK hc i pins s σ H E I hf st hg
  subst hP hw hK
  obtain⟨xs,x,hq,hx⟩:=hg
  obtain⟨its,rv,p,hz⟩:=I.list hq
  obtain⟨u,hu,ru⟩:=rv.get hx
  obtain⟨f0,f1,f2,f3,f4,f5⟩:=hf it (by simp)
  refine wpAny_pyNext_list_item st p.isList (x:=u) (by simpa using hu) fun h' st' sb=>?_
  have I1:Inv X pins σ H { s with heap:=h' }:=I.turned (t':=s.toks) (fun b o hb e=>(sb.2 b hb).trans e) f0 f1 f3 f4 f5
  obtain⟨o,e,c,d⟩:=id st'
  exact ⟨u,rfl,aHm (s:={ s with heap:=h' }) e c d (by decide) ⟨x,H,I1,ru,⟨rfl,fun ys hy=>by rw[I.list_inj hy hq];exact hx⟩,st',fun b hb=>(hf b hb).1⟩⟩
 done:=by
  intro X hP hw hK hc i pins s σ H E I hf st hg
  subst hP hw hK
  obtain⟨xs,hq,hx⟩:=hg
  obtain⟨its,rv,p,hz⟩:=I.list hq
  obtain⟨f0,f1,f2,f3,f4,f5⟩:=hf it (by simp)
  have hl:=rv.length
  exact wpAny_pyNext_list_end (I.ok.hd hc) st p.isList (by simp;omega) fun h' eb=>⟨rfl,I.turned (t':=s.toks) (fun b o hb e=>eb b o hb e) f0 f1 f3 f4 f5⟩
 self:=fun _ _ _ _ _ st h=>wpAny_pyIter_listiter st h
theorem aCs {P:Program}{w:World}{K:aa}{tg:Expr}(a it:Addr):aGi P w K tg (Itt K a) [it] it (fun i h=>h.IsTupleIter it a i) where
 mem:=by simp
 obj:=fun i h st b hb=>by
  have e:b=it:=by simpa using hb
  subst e
  obtain⟨o,e,c,d⟩:=st
  exact ⟨o,e,fun v z=>by rw[d] at z;cases z⟩
 keep:=fun i h h' st k=>st.at fun o e=>k it (by simp) o e
 item:=by
  intro X hP hw hK hc i pins s σ H E I hf st hg
  subst hP hw hK
  obtain⟨xs,x,hq,hx⟩:=hg
  obtain⟨its,rv,p,hz⟩:=I.tuple hq
  obtain⟨u,hu,ru⟩:=rv.get hx
  obtain⟨f0,f1,f2,f3,f4,f5⟩:=hf it (by simp)
  refine uk st (show s.heap.IsTuple a its.toArray from p) (x:=u) (by simpa using hu) fun h' st' sb=>?_
  have I1:Inv X pins σ H { s with heap:=h' }:=I.turned (t':=s.toks) (fun b o hb e=>(sb.2 b hb).trans e) f0 f1 f3 f4 f5
  obtain⟨o,e,c,d⟩:=id st'
  exact ⟨u,rfl,aHm (s:={ s with heap:=h' }) e c d (by decide) ⟨x,H,I1,ru,⟨rfl,fun ys hy=>by rw[I.tuple_inj hy hq];exact hx⟩,st',fun b hb=>(hf b hb).1⟩⟩
 done:=by
  intro X hP hw hK hc i pins s σ H E I hf st hg
  subst hP hw hK
  obtain⟨xs,hq,hx⟩:=hg
  obtain⟨its,rv,p,hz⟩:=I.tuple hq
  obtain⟨f0,f1,f2,f3,f4,f5⟩:=hf it (by simp)
  have hl:=rv.length
  exact vj (I.ok.hd hc) st (show s.heap.IsTuple a its.toArray from p) (by simp;omega) fun h' eb=>⟨rfl,I.turned (t':=s.toks) (fun b o hb e=>eb b o hb e) f0 f1 f3 f4 f5⟩
 self:=fun _ _ _ _ _ st h=>vk st h
theorem aCj {P:Program}{w:World}{K:aa}{tg:Expr}(it:Addr)(lo:Int)(n:Nat):aGi P w K tg (Itr lo n) [it] it (fun i h=>IsRangeIter h it (lo+(i:Nat)*1) ((n:Int) - (i:Nat)) 1) where
 mem:=by simp
 obj:=fun i h st b hb=>by
  have e:b=it:=by simpa using hb
  subst e
  exact ⟨_,st,fun v z=>by
   have z':Data.fields _=Data.cell v:=z
   cases z'⟩
 keep:=fun i h h' st k=>k it (by simp) _ st
 item:=by
  intro X hP hw hK hc i pins s σ H E I hf st hg
  subst hP hw hK
  obtain⟨f0,f1,f2,f3,f4,f5⟩:=hf it (by simp)
  have W:=Walks.range (prog:=X.prog) (w:=X.w) (I.ok.hd hc) it lo 1 n
  refine W.item i s _ _ hg st fun v h' tk hv st' kk=>?_
  obtain⟨t,rfl⟩:=hv
  have I1:Inv X pins σ H { s with heap:=h',toks:=tk }:=I.turned (fun b o hb e=>kk b o (by simpa using hb) e) f0 f1 f3 f4 f5
  refine ⟨_,rfl,aHm (s:={ s with heap:=h',toks:=tk }) (n:="range_iterator") st' rfl rfl (by decide) ⟨.int (lo+i),H,I1,⟨t,?_⟩,⟨rfl,rfl⟩,st',fun b hb=>(hf b hb).1⟩⟩
  rw[ot]
 done:=by
  intro X hP hw hK hc i pins s σ H E I hf st hg
  subst hP hw hK
  obtain⟨f0,f1,f2,f3,f4,f5⟩:=hf it (by simp)
  exact wpAny_pyNext_range_end (I.ok.hd hc) st (by have:n<=i:=hg;omega) fun h' eb=>⟨rfl,I.turned (t':=s.toks) (fun b o hb e=>eb b o hb e) f0 f1 f3 f4 f5⟩
 self:=fun _ _ _ _ _ st h=>wpAny_pyIter_rangeiter st h
section
variable {X:Cx}{tg:Expr}
theorem aBb {pins:List (Addr × Obj)}{σ:St}{H:Hp}{s:Shared}{R:It->Hp->Prop}{E:Value->Shared->Prop}{lo hi:Int}{t u v:Tok}{tk:Nat}(I:Inv X pins σ H s)(h1:-(2 ^ 62)<=lo)(h2:lo<2 ^ 62)(h3:-(2 ^ 62)<=hi)(h4:hi<2 ^ 62)
  (q:R (Itr lo (hi - lo).toNat) H):wpAny (model X.prog X.w) X.A (y9 (.ref s.heap.objs.size)) (PIE X pins σ tg R) E { s with heap:=s.heap.push { cls := .type "range",data := .fields #[.int lo t, .int hi u, .int 1 v] },toks:=tk }:=by
 refine wpAny_pyIter_range (IsRange.new ..) (small_one h1 h2 h3 h4) ?_
 have I1:Inv X pins σ H { s with heap:=s.heap.push { cls := .type "range",data := .fields #[.int lo t, .int hi u, .int 1 v] },toks:=tk }:=I.kept fun b o e=>aj _ e
 refine ⟨(s.heap.push { cls := .type "range",data := .fields #[.int lo t, .int hi u, .int 1 v] }).objs.size,[(s.heap.push { cls := .type "range",data := .fields #[.int lo t, .int hi u, .int 1 v] }).objs.size],_,_,H,rfl,
  I1.kept (t':=tk) fun b o e=>aj _ e,aCj _ lo (hi - lo).toNat,?_,fun b hb=>?_,q⟩
 ·have e1:lo+((0:Nat):Int)*1=lo:=by simp
  have e2:(((hi - lo).toNat:Nat):Int) - ((0:Nat):Int)=Builtin.Range.rangeSize lo hi 1:=by rw[rangeSize_one];split <;> omega
  show IsRangeIter _ _ (lo+((0:Nat):Int)*1) ((((hi - lo).toNat:Nat):Int) - ((0:Nat):Int)) 1
  rw[e1,e2]
  exact bh _ rfl
 ·have e:b=(s.heap.push { cls := .type "range",data := .fields #[.int lo t, .int hi u, .int 1 v] }).objs.size:=by simpa using hb
  subst e
  exact I1.fpOk (bg _) (I1.hok.fresh (bg _))
def kD (ta:TA):TI:=fun σ H R=>ta σ H fun vs H1=>∃ j:Int,vs=[.int j]/\-(2 ^ 62)<=j/\j<2 ^ 62/\R (Itr 0 j.toNat) H1
def aHx (ta:TA):TI:=fun σ H R=>ta σ H fun vs H1=>∃ i j:Int,vs=[.int i, .int j]/\(-(2 ^ 62)<=i/\i<2 ^ 62/\-(2 ^ 62)<=j/\j<2 ^ 62)/\R (Itr i (j - i).toNat) H1
theorem cZ {a:Expr}{ta:TA}{p pos:Pos}(hg:Gl X "range")(hm:X.mg "range" = none)(ha:PA X [a] ta)(hs:dz [a] X.env=[(false,eval a X.env)]:=by rfl):PI X tg (.Call (.Name "range" p) [a] [] pos) (kD ta):=by
 intro pins s σ H R I h
 refine Call_ (rH I hg hm boot_range (iz (thn (ha pos pins s σ H _ I h) fun us s1 ⟨vs,H1,I1,r1,q1⟩=>?_) hs rfl))
 obtain⟨j,e,q1,q2,q⟩:=q1
 subst e
 cases r1 with
 | cons r rr=>
  cases rr
  obtain⟨t,rfl⟩:=r
  exact call_range_1 (aBb I1 (by omega) (by omega) q1 q2 (by simpa using q))
theorem zX {a b:Expr}{ta:TA}{p pos:Pos}(hg:Gl X "range")(hm:X.mg "range" = none)(ha:PA X [a,b] ta)(hs:dz [a,b] X.env=[(false,eval a X.env),(false,eval b X.env)]:=by rfl)(hs2:dz [b] X.env=[(false,eval b X.env)]:=by rfl) :
  PI X tg (.Call (.Name "range" p) [a,b] [] pos) (aHx ta):=by
 intro pins s σ H R I h
 refine Call_ (rH I hg hm boot_range (iz (thn (ha pos pins s σ H _ I h) fun us s1 ⟨vs,H1,I1,r1,q1⟩=>?_) (by rw[hs,hs2]) (by rw[hs2];rfl)))
 obtain⟨i,j,e,⟨q1,q2,q3,q4⟩,q⟩:=q1
 subst e
 cases r1 with
 | cons r rr=>
  cases rr with
  | cons r' rr=>
   cases rr
   obtain⟨t,rfl⟩:=r
   obtain⟨t',rfl⟩:=r'
   exact call_range_2 (aBb I1 q1 q2 q3 q4 q)
def tK (wi:TI) (g:TG) (tb:TS):TS:=fun D σ H=>wi σ H fun J H1=>∃ W:Nat->Nat->St->Hp->Prop,(∃ m,W 0 m σ H1)/\∀ i m σ H,W i m σ H ->
 (J.stop i H/\D.nx σ H)\/(J.go i H/\∃ N:St->Hp->Prop,(∀ σ' H',N σ' H'->∃ m',m'<m/\W (i+1) m' σ' H')/\∀ x H',J.yld i H x H'->g x σ H' fun σ2 H2=>tb { D with nx:=N,ct:=N,bk:=D.nx } σ2 H2)
def zO (fp:List Addr) (h:Heap):List (Addr × Obj):=fp.filterMap fun b=>(h.get? b).map fun o=>(b,o)
theorem kO {fp:List Addr}{h:Heap}{b:Addr}{o:Obj}(hb:b∈fp)(e:h.get? b=some o):(b,o)∈zO fp h:=rj.mpr ⟨b,hb,by rw[e];rfl⟩
theorem aEd {fp:List Addr}{h:Heap}{p:Addr × Obj}(hp:p∈zO fp h):p.1∈fp/\h.get? p.1=some p.2:=by
 obtain⟨b,hb,e⟩:=rj.mp hp
 cases q:h.get? b with
 | none=>rw[q] at e;cases e
 | some o=>
  rw[q] at e
  have e':(b,o)=p:=bf e
  subst e'
  exact ⟨hb,q⟩
theorem Inv.pinned {pins:List (Addr × Obj)}{σ:St}{H:Hp}{s:Shared}{fp:List Addr}(I:Inv X pins σ H s)(hf:∀ b∈fp,FpOk X pins H b)(ho:∀ b∈fp,∃ o,s.heap.get? b=some o/\∀ v,o.data ≠ .cell v):Inv X (pins++zO fp s.heap) σ H s:=
 I.pins_of fun p hp=>(dv.mp hp).elim (fun z=>I.pin p (ef _ z)) fun z=>by
  obtain⟨hb,e⟩:=aEd z
  obtain⟨f0,f1,f2,_⟩:=hf p.1 hb
  obtain⟨o,e',d⟩:=ho p.1 hb
  rw[e] at e';cases e'
  exact ⟨e,f0,f1,f2,d⟩
theorem Inv.unpinned {pins pl:List (Addr × Obj)}{σ:St}{H:Hp}{s:Shared}(I:Inv X (pins++pl) σ H s):Inv X pins σ H s:=I.pins_of fun p hp=>I.pin p (ef _ (kc _ hp))
theorem gH {iter:Expr}{body:List Stmt}{wi:TI}{g:TG}{tb:TS}{pos:Pos}(hp:PassesOwn (model X.prog X.w) X.A X.env X.xe)(hc:X.calm=true)(hi:PI X tg iter wi)(hg:PG X tg g)(hb:PSs X body tb)
  (hs:∀ x,mh iter X.env x=pure x:=by intro _;rfl):PS X (.For tg iter body [] pos) (tK wi g tb):=by
 intro pins s σ H D I h
 refine wpAny_For (thn (hi pins s σ H _ I h) fun v s1 h1=>thn h1 fun itv s2 h2=>?_) hs
 obtain⟨it,fp,tn,J,H2,e,I2,T,st2,f2,W,⟨m0,w0⟩,turn⟩:=h2
 subst e
 have stat:∀ {H':Hp},(∀ b∈fp,H' b=none)->∀ b∈fp,FpOk X pins H' b:=fun hn b hb=>⟨hn b hb,(f2 b hb).2⟩
 refine codeAny_forLoop_any (fun n s'=>∃ i σ' H',Inv X pins σ' H' s'/\tn i s'.heap/\(∀ b∈fp,H' b=none)/\W i n σ' H') ?_ m0 ⟨0,σ,H2,I2,st2,fun b hb=>(f2 b hb).1,w0⟩
 rintro n s3 ⟨i,σ3,H3,I3,st3,fr3,w3⟩
 rcases turn i n σ3 H3 w3 with ⟨stop,qn⟩ | ⟨go,N,hN,step⟩
 ·refine kg hp (thn (T.done X rfl rfl rfl hc i pins s3 σ3 H3 X.xe I3 (stat fr3) st3 stop) fun r s4 ⟨hr,I4⟩=>?_)
  subst hr
  exact ql ⟨σ3,H3,I4,qn⟩
 ·refine kg hp (thn (T.item X rfl rfl rfl hc i pins s3 σ3 H3 X.xe I3 (stat fr3) st3 go) fun r s4 ⟨u,hr,h4⟩=>?_)
  subst hr
  refine kg hp (thn h4 fun _ s5 ⟨x,H5,I5,r5,y5,st5,fr5⟩=>?_)
  have I5':=I5.pinned (stat fr5) (T.obj _ _ st5)
  refine kg hp (thn (hg _ s5 σ3 H5 x u _ I5' r5 (step x H5 y5)) fun _ s6 ⟨σ6,H6,I6,q6⟩=>?_)
  refine kg hp (thn (hb _ s6 σ6 H6 _ I6 q6) fun f s7 q7=>?_)
  have again:∀ {σ7:St} {H7:Hp},Inv X (pins++zO fp s5.heap) σ7 H7 s7->N σ7 H7->∃ m,m<n/\∃ i σ' H',Inv X pins σ' H' s7/\tn i s7.heap/\(∀ b∈fp,H' b=none)/\W i m σ' H':=fun {σ7 H7} I7 n7=>by
   obtain⟨m',hm,w7⟩:=hN σ7 H7 n7
   refine ⟨m',hm,i+1,σ7,H7,I7.unpinned,T.keep _ _ _ st5 fun b hb o e=>(I7.pin (b,o) (ef _ (ef _ (kO hb e)))).1,fun b hb=>?_,w7⟩
   obtain⟨o,e,d⟩:=T.obj _ _ st5 b hb
   exact (I7.pin (b,o) (ef _ (ef _ (kO hb e)))).2.1
  cases f with
  | next=>obtain⟨σ7,H7,I7,n7⟩:=q7;exact again I7 n7
  | cont=>obtain⟨σ7,H7,I7,n7⟩:=q7;exact again I7 n7
  | brk=>obtain⟨σ7,H7,I7,q7⟩:=q7;exact ⟨σ7,H7,I7.unpinned,q7⟩
  | ret v=>obtain⟨x7,σ7,H7,I7,r7,q7⟩:=q7;exact ⟨x7,σ7,H7,I7.unpinned,r7,q7⟩
end
theorem cX {K:aa}{a:Addr}{xs:List V}{g:TG}{tb:TS}{D:lO}{σ:St}{H:Hp}(Pv:Nat->St->Hp->Prop)(h0:Pv 0 σ H)(hl:∀ i σ H,i<=xs.length->Pv i σ H->SqL K H a xs)
  (hs:∀ i x σ H,xs[i]?=some x->Pv i σ H->g x σ H fun σ2 H2=>tb { D with nx:=Pv (i+1),ct:=Pv (i+1),bk:=D.nx } σ2 H2) (hd:∀ σ H,Pv xs.length σ H->D.nx σ H) :
  ∃ W:Nat->Nat->St->Hp->Prop,(∃ m,W 0 m σ H)/\∀ i m σ H,W i m σ H ->
   ((Itl K a).stop i H/\D.nx σ H)\/((Itl K a).go i H/\∃ N:St->Hp->Prop,(∀ σ' H',N σ' H'->∃ m',m'<m/\W (i+1) m' σ' H')/\∀ x H',(Itl K a).yld i H x H'->g x σ H' fun σ2 H2=>tb { D with nx:=N,ct:=N,bk:=D.nx } σ2 H2):=by
 refine ⟨fun i m σ H=>m=xs.length - i/\i<=xs.length/\Pv i σ H,⟨xs.length,by simp,ay _,h0⟩,?_⟩
 rintro i m σ H ⟨rfl,hi,p⟩
 have q:=hl i σ H hi p
 by_cases hlt:i<xs.length
 ·refine .inr ⟨⟨xs,xs[i],q,by simp [hlt]⟩,Pv (i+1),fun σ' H' p'=>⟨xs.length - (i+1),by omega,rfl,hlt,p'⟩,fun x H' y=>?_⟩
  obtain⟨e,y⟩:=y
  subst e
  exact hs i x σ _ (y xs q) p
 ·have e:i=xs.length:=by omega
  subst e
  exact .inl ⟨⟨xs,q,bg _⟩,hd σ H p⟩
theorem aGy {K:aa}{a:Addr}{xs:List V}{g:TG}{tb:TS}{D:lO}{σ:St}{H:Hp}(Pv:Nat->St->Hp->Prop)(h0:Pv 0 σ H)(hl:∀ i σ H,i<=xs.length->Pv i σ H->SqT K H a xs)
  (hs:∀ i x σ H,xs[i]?=some x->Pv i σ H->g x σ H fun σ2 H2=>tb { D with nx:=Pv (i+1),ct:=Pv (i+1),bk:=D.nx } σ2 H2) (hd:∀ σ H,Pv xs.length σ H->D.nx σ H) :
  ∃ W:Nat->Nat->St->Hp->Prop,(∃ m,W 0 m σ H)/\∀ i m σ H,W i m σ H ->
   ((Itt K a).stop i H/\D.nx σ H)\/((Itt K a).go i H/\∃ N:St->Hp->Prop,(∀ σ' H',N σ' H'->∃ m',m'<m/\W (i+1) m' σ' H')/\∀ x H',(Itt K a).yld i H x H'->g x σ H' fun σ2 H2=>tb { D with nx:=N,ct:=N,bk:=D.nx } σ2 H2):=by
 refine ⟨fun i m σ H=>m=xs.length - i/\i<=xs.length/\Pv i σ H,⟨xs.length,by simp,ay _,h0⟩,?_⟩
 rintro i m σ H ⟨rfl,hi,p⟩
 have q:=hl i σ H hi p
 by_cases hlt:i<xs.length
 ·refine .inr ⟨⟨xs,xs[i],q,by simp [hlt]⟩,Pv (i+1),fun σ' H' p'=>⟨xs.length - (i+1),by omega,rfl,hlt,p'⟩,fun x H' y=>?_⟩
  obtain⟨e,y⟩:=y
  subst e
  exact hs i x σ _ (y xs q) p
 ·have e:i=xs.length:=by omega
  subst e
  exact .inl ⟨⟨xs,q,bg _⟩,hd σ H p⟩
theorem dP {lo:Int}{n:Nat}{g:TG}{tb:TS}{D:lO}{σ:St}{H:Hp}(Pv:Nat->St->Hp->Prop)(h0:Pv 0 σ H)
  (hs:∀ i σ H,i<n->Pv i σ H->g (.int (lo+i)) σ H fun σ2 H2=>tb { D with nx:=Pv (i+1),ct:=Pv (i+1),bk:=D.nx } σ2 H2) (hd:∀ σ H,Pv n σ H->D.nx σ H) :
  ∃ W:Nat->Nat->St->Hp->Prop,(∃ m,W 0 m σ H)/\∀ i m σ H,W i m σ H ->
   ((Itr lo n).stop i H/\D.nx σ H)\/((Itr lo n).go i H/\∃ N:St->Hp->Prop,(∀ σ' H',N σ' H'->∃ m',m'<m/\W (i+1) m' σ' H')/\∀ x H',(Itr lo n).yld i H x H'->g x σ H' fun σ2 H2=>tb { D with nx:=N,ct:=N,bk:=D.nx } σ2 H2):=by
 refine ⟨fun i m σ H=>m=n - i/\i<=n/\Pv i σ H,⟨n,by simp,ay _,h0⟩,?_⟩
 rintro i m σ H ⟨rfl,hi,p⟩
 by_cases hlt:i<n
 ·refine .inr ⟨hlt,Pv (i+1),fun σ' H' p'=>⟨n - (i+1),by omega,rfl,hlt,p'⟩,fun x H' y=>?_⟩
  obtain⟨e,y⟩:=y
  subst e y
  exact hs i σ _ hlt p
 ·have e:i=n:=by omega
  subst e
  exact .inl ⟨bg _,hd σ H p⟩
abbrev R2:=V->V->Hp->VK->Prop
def OpR (X:Cx) (f:Value->Value->Sem Value) (r:R2):Prop:=
 ∀ (pins:List (Addr × Obj)) (s:Shared) (σ:St) (H:Hp) (x y:V) (v u:Value) (Q:VK),Inv X pins σ H s->RelV x v->RelV y u->r x y H Q ->
  wpAny (model X.prog X.w) X.A (f v u) (EP X pins σ Q) X.xe s
def UnR (X:Cx) (f:Value->Sem Value) (r:V->Hp->VK->Prop):Prop:=
 ∀ (pins:List (Addr × Obj)) (s:Shared) (σ:St) (H:Hp) (x:V) (v:Value) (Q:VK),Inv X pins σ H s->RelV x v->r x H Q ->
  wpAny (model X.prog X.w) X.A (f v) (EP X pins σ Q) X.xe s
def CallR (X:Cx) (f:Value) (r:List V->Hp->VK->Prop):Prop:=
 ∀ (pins:List (Addr × Obj)) (s:Shared) (σ:St) (H:Hp) (xs:List V) (us:List Value) (Q:VK),Inv X pins σ H s->Vals xs us->r xs H Q ->
  wpAny (model X.prog X.w) X.A (call f us) (EP X pins σ Q) X.xe s
def aLH (X:Cx) (r:V->Hp->(Bool->Hp->Prop)->Prop):Prop:=
 ∀ (pins:List (Addr × Obj)) (s:Shared) (σ:St) (H:Hp) (x:V) (v:Value) (Q:Bool->Hp->Prop),Inv X pins σ H s->RelV x v->r x H Q ->
  wpAny (model X.prog X.w) X.A (truthy v) (TP X pins σ Q) X.xe s
def tOp (r:R2) (ta tb:TE):TE:=fun σ H Q=>ta σ H fun x H1=>tb σ H1 fun y H2=>r x y H2 Q
def tUn (r:V->Hp->VK->Prop) (ta:TE):TE:=fun σ H Q=>ta σ H fun x H1=>r x H1 Q
def rI (C:Int->Int->Prop) (g:Int->Int->V):R2:=fun x y H Q=>∃ i j,x = .int i/\y = .int j/\C i j/\Q (g i j) H
inductive aLv (g:Int->Int->V) (x y:V) (H:Hp) (Q:VK):Prop
 | mk (i j:Int) (hx:x = .int i) (hy:y = .int j) (q:Q (g i j) H):aLv g x y H Q
def rI0 (g:Int->Int->V):R2:=fun x y H Q=>aLv g x y H Q
def rU (g:Int->V):V->Hp->VK->Prop:=fun x H Q=>∃ i,x = .int i/\Q (g i) H
section
variable {X:Cx}{a b c:Expr}{ta tb tc:TE}{pos:Pos}
theorem aLe (ha:PE X a ta)(hb:PE X b tb){pins:List (Addr × Obj)}{s:Shared}{σ:St}{H:Hp}{R:V->V->Hp->Prop}(I:Inv X pins σ H s)
  (h:ta σ H fun x H1=>tb σ H1 fun y H2=>R x y H2) {Q:Value->Shared->Prop} {f:Value->Value->Sem Value}
  (hf:∀ v u s2 x y H2,Inv X pins σ H2 s2->RelV x v->RelV y u->R x y H2->wpAny (model X.prog X.w) X.A (f v u) Q X.xe s2) :
  wpAny (model X.prog X.w) X.A (eval a X.env) (fun v s₁=>wpAny (model X.prog X.w) X.A (eval b X.env) (fun u s₂=>wpAny (model X.prog X.w) X.A (f v u) Q X.xe s₂) X.xe s₁) X.xe s:=by
 refine thn (ha pins s σ H _ I h) fun v s1 ⟨x,H1,I1,r1,q1⟩=>?_
 refine thn (hb pins s1 σ H1 _ I1 q1) fun u s2 ⟨y,H2,I2,r2,q2⟩=>?_
 exact hf v u s2 x y H2 I2 r1 r2 q2
theorem bI {op:Operator}{r:R2}(ho:OpR X (kd op) r)(ha:PE X a ta)(hb:PE X b tb):PE X (.BinOp a op b pos) (tOp r ta tb):=by
 intro pins s σ H Q I h
 exact wpAny_BinOp (aLe ha hb I h fun v u s2 x y H2 I2 rx ry q=>ho pins s2 σ H2 x y v u Q I2 rx ry q)
theorem lS {op:UnaryOp}{r:V->Hp->VK->Prop}(ho:UnR X (unaryOp op) r)(ha:PE X a ta):PE X (.UnaryOp op a pos) (tUn r ta):=by
 intro pins s σ H Q I h
 exact UnaryOp_ (thn (ha pins s σ H _ I h) fun v s1 ⟨x,H1,I1,r1,q1⟩=>ho pins s1 σ H1 x v Q I1 r1 q1)
theorem opI {f:Value->Value->Sem Value}{C:Int->Int->Prop}{g:Int->Int->Int}
  (rule:∀ (i j:Int) (t u:Tok) (s:Shared) (Q:Value->Shared->Prop) (E:Value->Shared->Prop),C i j->Q (.int (g i j) s.toks) { s with toks:=s.toks+1 }->wpAny (model X.prog X.w) X.A (f (.int i t) (.int j u)) Q E s) :
  OpR X f (rI C fun i j => .int (g i j)):=by
 intro pins s σ H x y v u Q I rx ry h
 obtain⟨i,j,rfl,rfl,hc,q⟩:=h
 obtain⟨t,rfl⟩:=rx
 obtain⟨t',rfl⟩:=ry
 exact rule i j t t' s _ _ hc ⟨.int (g i j),H,I.tok _,⟨_,rfl⟩,q⟩
theorem aLs {f:Value->Value->Sem Value}{g:Int->Int->Int}
  (rule:∀ (i j:Int) (t u:Tok) (s:Shared) (Q:Value->Shared->Prop) (E:Value->Shared->Prop),Q (.int (g i j) s.toks) { s with toks:=s.toks+1 }->wpAny (model X.prog X.w) X.A (f (.int i t) (.int j u)) Q E s) :
  OpR X f (rI0 fun i j => .int (g i j)):=by
 intro pins s σ H x y v u Q I rx ry h
 obtain⟨i,j,rfl,rfl,q⟩:=h
 obtain⟨t,rfl⟩:=rx
 obtain⟨t',rfl⟩:=ry
 exact rule i j t t' s _ _ ⟨.int (g i j),H,I.tok _,⟨_,rfl⟩,q⟩
theorem aJN {f:Value->Value->Sem Value}{g:Int->Int->Bool}
  (rule:∀ (i j:Int) (t u:Tok) (s:Shared) (Q:Value->Shared->Prop) (E:Value->Shared->Prop),Q (.bool (g i j)) s->wpAny (model X.prog X.w) X.A (f (.int i t) (.int j u)) Q E s) :
  OpR X f (rI0 fun i j => .bl (g i j)):=by
 intro pins s σ H x y v u Q I rx ry h
 obtain⟨i,j,rfl,rfl,q⟩:=h
 obtain⟨t,rfl⟩:=rx
 obtain⟨t',rfl⟩:=ry
 exact rule i j t t' s _ _ ⟨.bl (g i j),H,I,rfl,q⟩
def aLC (i j:Int):Prop:=0<=j/\j<=1000000/\i.natAbs<2 ^ 64
def CMul (i j:Int):Prop:=(-(2 ^ 64)<i/\i<2 ^ 64)\/(-(2 ^ 64)<j/\j<2 ^ 64)
theorem CMul.ok {i j:Int}(h:CMul i j):IntMulOk i j:=by
 rcases h with ⟨h1,h2⟩ | ⟨h1,h2⟩
 ·exact .of_left (intBits_le_64 h1 h2)
 ·exact .of_right (intBits_le_64 h1 h2)
theorem aIc:OpR X (kd .Add) (rI0 fun i j => .int (i+j)):=aLs fun _ _ _ _ _ _ _ q=>add_int q
theorem mO:OpR X (kd .Sub) (rI0 fun i j => .int (i - j)):=aLs fun _ _ _ _ _ _ _ q=>sub_int q
theorem aHX:OpR X (kd .Mult) (rI CMul fun i j => .int (i*j)):=opI fun _ _ _ _ _ _ _ hc q=>mul_int q hc.ok
theorem kZ:OpR X (kd .Mod) (rI (fun _ j=>0<j) fun i j => .int (i % j)):=opI fun i j _ _ _ _ _ hc q=>by
 have h1:(0:Int)<j:=hc
 exact mod_int' (by omega) (by rw[Int.fmod_eq_emod_of_nonneg i (by omega)];exact q)
theorem aDc:OpR X (kd .Pow) (rI aLC fun i j => .int (i ^ j.toNat)):=opI fun _ _ _ _ _ _ _ hc q=>pow_int_small hc.1 hc.2.1 hc.2.2 q
theorem unI {f:Value->Sem Value}{g:Int->Int}
  (rule:∀ (i:Int) (t:Tok) (s:Shared) (Q:Value->Shared->Prop) (E:Value->Shared->Prop),Q (.int (g i) s.toks) { s with toks:=s.toks+1 }->wpAny (model X.prog X.w) X.A (f (.int i t)) Q E s) :
  UnR X f (rU fun i => .int (g i)):=by
 intro pins s σ H x v Q I rx h
 obtain⟨i,rfl,q⟩:=h
 obtain⟨t,rfl⟩:=rx
 exact rule i t s _ _ ⟨.int (g i),H,I.tok _,⟨_,rfl⟩,q⟩
theorem gL:UnR X (unaryOp .USub) (rU fun i => .int (-i)):=unI fun _ _ _ _ _ q=>neg_int q
end
section
variable {X:Cx}{a b c:Expr}{ta tb tc:TE}{pos:Pos}
theorem aBw {pins:List (Addr × Obj)}{σ:St}{H:Hp}{s:Shared}{Q:VK}{k k':Bool}(I:Inv X pins σ H s)(q:Q (.bl k) H)(e:k=k'):EP X pins σ Q (.bool k') s:=by
 subst e
 exact ⟨.bl k,H,I,rfl,q⟩
theorem mX:OpR X (gj .Lt) (rI0 fun i j => .bl (decide (i<j))):=aJN fun _ _ _ _ _ _ _ q=>lt_int q
theorem aKx:OpR X (gj .LtE) (rI0 fun i j => .bl (decide (i<=j))):=aJN fun _ _ _ _ _ _ _ q=>le_int q
theorem tX:OpR X (gj .Gt) (rI0 fun i j => .bl (decide (j<i))):=aJN fun _ _ _ _ _ _ _ q=>gt_int q
theorem aIS:OpR X (gj .GtE) (rI0 fun i j => .bl (decide (j<=i))):=aJN fun _ _ _ _ _ _ _ q=>ge_int q
theorem aIX:OpR X (gj .Is) (fun x y H Q=>y = .non/\Q (.bl (decide (x = .non))) H):=by
 intro pins s σ H x y v u Q I rx ry h
 obtain⟨rfl,q⟩:=h
 cases ry
 refine is_none_gen (aBw I q ?_)
 cases x <;> first
  | (cases rx;rfl)
  | (obtain⟨t,rfl⟩:=rx;rfl)
theorem aGs:OpR X (gj .IsNot) (fun x y H Q=>y = .non/\Q (.bl (!decide (x = .non))) H):=by
 intro pins s σ H x y v u Q I rx ry h
 obtain⟨rfl,q⟩:=h
 cases ry
 refine isnot_none_gen (aBw I q ?_)
 cases x <;> first
  | (cases rx;rfl)
  | (obtain⟨t,rfl⟩:=rx;rfl)
theorem OpR.or {f:Value->Value->Sem Value}{r r':R2}(h:OpR X f r)(h':OpR X f r'):OpR X f (fun x y H Q=>r x y H Q\/r' x y H Q):=by
 intro pins s σ H x y v u Q I rx ry q
 rcases q with q | q
 ·exact h pins s σ H x y v u Q I rx ry q
 ·exact h' pins s σ H x y v u Q I rx ry q
theorem bK (b:Expr){op:CmpOp}(h:op ≠ .In:=by decide)(h2:op ≠ .NotIn:=by decide):um op b=false:=by
 have e1:(op == CmpOp.In)=false:=by cases op <;> first | rfl | exact absurd rfl h
 have e2:(op == CmpOp.NotIn)=false:=by cases op <;> first | rfl | exact absurd rfl h2
 cases b <;> simp [um,e1,e2]
theorem dL {op:CmpOp}{r:R2}(ho:OpR X (gj op) r)(ha:PE X a ta)(hb:PE X b tb)(hm:um op b=false):PE X (.Compare a [op] [b] pos) (tOp r ta tb):=by
 intro pins s σ H Q I h
 exact wpAny_Compare1 (aLe ha hb I h fun v u s2 x y H2 I2 rx ry q=>ho pins s2 σ H2 x y v u Q I2 rx ry q) hm
inductive TBP (x:V) (H:Hp) (Q:Bool->Hp->Prop):Prop
 | mk (k:Bool) (e:x = .bl k) (q:Q k H):TBP x H Q
def bU (t:TE):TT:=fun σ H Q=>t σ H fun x H'=>TBP x H' Q
theorem bN {op:CmpOp}{r:R2}(ho:OpR X (gj op) r)(ha:PE X a ta)(hb:PE X b tb)(hm:um op b=false):PT X (.Compare a [op] [b] pos) (bU (tOp r ta tb)):=by
 intro pins s σ H Q I h
 refine wpAny_isTrue_Compare1 (thn (ha pins s σ H _ I h) fun v s1 ⟨x,H1,I1,r1,q1⟩=>thn (hb pins s1 σ H1 _ I1 q1) fun u s2 ⟨y,H2,I2,r2,q2⟩=>
  thn (ho pins s2 σ H2 x y v u _ I2 r1 r2 q2) fun c s3 ⟨z,H3,I3,r3,k,e,q3⟩=>?_) hm
 subst e
 cases r3
 exact gp ⟨H3,I3,q3⟩
def aKN (K:aa) (x:V) (H:Hp) (k:Bool):Prop:=
 match x with
 | .non=>k=false
 | .bl b=>k=b
 | .int i=>k=(i != 0)
 | .str y=>y.length<=ba/\k=((y.length:Int) != 0)
 | .byt y=>y.size<=ba/\k=((y.size:Int) != 0)
 | .ref p=>(∃ xs,SqL K H p xs/\k = !xs.isEmpty)\/(∃ xs,SqT K H p xs/\k = !xs.isEmpty)\/∃ kvs,H p=some (.dK kvs)/\k = !kvs.isEmpty
 | _=>False
theorem aBW {κ:Type}{kvs:List (κ × V)}{vs:List (κ × Value)}(r:KV kvs vs):(!vs.isEmpty) = !kvs.isEmpty:=by
 cases r <;> rfl
theorem uX {xs:List V}{its:List Value}(r:Vals xs its):(!its.toArray.isEmpty) = !xs.isEmpty:=by
 cases r <;> simp
theorem yY:(ba:Nat)<2 ^ 63:=by rw[uo];decide
theorem aIA:aLH X (fun x H Q=>∃ k,aKN X.K x H k/\Q k H):=by
 intro pins s σ H x v Q I rx h
 obtain⟨k,e,q⟩:=h
 have hl:=yY
 have hs:ba=16777216:=uo
 cases x with
 | non=>
  cases rx
  have e':k=false:=e
  subst e'
  exact truthy_none ⟨H,I,q⟩
 | bl b=>
  cases rx
  have e':k=b:=e
  subst e'
  exact gp ⟨H,I,q⟩
 | int i=>
  obtain⟨t,rfl⟩:=rx
  have e':k=(i != 0):=e
  subst e'
  exact PySem.P.truthy_int ⟨H,I,q⟩
 | str y=>
  obtain⟨t,rfl⟩:=rx
  obtain⟨hy,e'⟩:y.length<=ba/\k=((y.length:Int) != 0):=e
  subst e'
  exact PySem.P.truthy_str (by omega) ⟨H,I.tok _,q⟩
 | byt y=>
  obtain⟨t,rfl⟩:=rx
  obtain⟨hy,e'⟩:y.size<=ba/\k=((y.size:Int) != 0):=e
  subst e'
  exact PySem.W.truthy_bytes (by omega) ⟨H,I.tok _,q⟩
 | ref p=>
  cases rx
  have e':(∃ xs,SqL X.K H p xs/\k = !xs.isEmpty)\/(∃ xs,SqT X.K H p xs/\k = !xs.isEmpty)\/∃ kvs,H p=some (.dK kvs)/\k = !kvs.isEmpty:=e
  rcases e' with ⟨xs,hx,e'⟩ | ⟨xs,hx,e'⟩ | ⟨kvs,hx,e'⟩
  ·subst e'
   obtain⟨its,r,pl,hz⟩:=I.list hx
   have hlen:=r.length
   exact wpAny_truthy_list pl.isList (by simp only [aq];omega) ⟨H,I.tok _,by rw[uX r];exact q⟩
  ·subst e'
   obtain⟨its,r,pl,hz⟩:=I.tuple hx
   have hlen:=r.length
   exact truthy_tuple pl (by simp only [aq];omega) ⟨H,I.tok _,by rw[uX r];exact q⟩
  ·subst e'
   obtain⟨hz,hS,vs,r,m⟩:kvs.length<=ba/\(p == t9)=false/\∃ vs,KV kvs vs/\s.heap.DictOf (aAH X.prog X.w) p vs:=I.hok p _ hx
   have hlen:kvs.length=vs.length:=xx r
   exact wpAny_truthy_dict hS m (by omega) ⟨H,I.tok _,by rw[aBW r];exact q⟩
 | _=>exact (show False from e).elim
theorem aFJ (ha:PE X a ta)(he:∀ whole,isTrue a X.env whole=(do let v <- whole;xj a.pos;vt [v] (truthy v))) :
  PT X a (fun σ H Q=>ta σ H fun x H'=>∃ k,aKN X.K x H' k/\Q k H'):=by
 intro pins s σ H Q I h
 exact isTrue_plain (thn (ha pins s σ H _ I h) fun v s1 ⟨x,H1,I1,r1,q1⟩=>aIA pins s1 σ H1 x v Q I1 r1 q1) (he _)
theorem aBZ:OpR X (kd .Add) (fun x y H Q=>∃ i j,x = .str i/\y = .str j/\i.length+j.length<=ba/\Q (.str (i++j)) H):=by
 intro pins s σ H x y v u Q I rx ry h
 obtain⟨i,j,rfl,rfl,hz,q⟩:=h
 obtain⟨t,rfl⟩:=rx
 obtain⟨t',rfl⟩:=ry
 exact add_str (fun t' tk=>⟨.str (i++j),H,I.tok _,⟨_,rfl⟩,q⟩) hz
theorem xX {x:V}{us:List Value}(r:Vals [x] us):∃ u,us=[u]/\RelV x u:=by
 cases r with
 | cons r1 r2=>cases r2;exact ⟨_,rfl,r1⟩
theorem aII {x y:V}{us:List Value}(r:Vals [x,y] us):∃ u w',us=[u,w']/\RelV x u/\RelV y w':=by
 cases r with
 | cons r1 r2=>
  cases r2 with
  | cons r3 r4=>cases r4;exact ⟨_,_,rfl,r1,r3⟩
theorem aFa:CallR X (.builtin "abs") (fun xs H Q=>∃ i,xs=[.int i]/\Q (.int (if i<0 then -i else i)) H):=by
 intro pins s σ H xs us Q I r h
 obtain⟨i,rfl,q⟩:=h
 obtain⟨u,rfl,t,rfl⟩:=xX r
 exact call_abs_int fun u tk=>⟨.int (if i<0 then -i else i),H,I.tok _,⟨_,rfl⟩,q⟩
theorem aDM (hc:X.calm=true):CallR X (.builtin "min") (fun xs H Q=>∃ i j,xs=[.int i, .int j]/\Q (.int (if j<i then j else i)) H):=by
 intro pins s σ H xs us Q I r h
 obtain⟨i,j,rfl,q⟩:=h
 obtain⟨u,w',rfl,⟨t,rfl⟩,⟨t',rfl⟩⟩:=aII r
 refine min_two_ints (I.ok.hd hc) fun h' tk k=>⟨_,H,I.kept k,?_,q⟩
 by_cases hj:j<i
 ·rw[if_pos hj,if_pos hj];exact ⟨_,rfl⟩
 ·rw[if_neg hj,if_neg hj];exact ⟨_,rfl⟩
theorem aCK:CallR X (.type "int") (fun xs H Q=>(∃ i,xs=[.int i]/\Q (.int i) H)\/∃ k,xs=[.bl k]/\Q (.int (if k then 1 else 0)) H):=by
 intro pins s σ H xs us Q I r h
 rcases h with ⟨i,rfl,q⟩ | ⟨k,rfl,q⟩
 ·obtain⟨u,rfl,t,rfl⟩:=xX r
  exact call_int_int ⟨.int i,H,I,⟨_,rfl⟩,q⟩
 ·obtain⟨u,rfl,r1⟩:=xX r
  cases r1
  exact call_int_bool ⟨.int (if k then 1 else 0),H,I.tok _,⟨_,rfl⟩,q⟩
end
section
variable {prog:Program}{w:World}{A:Around}{E:Value->Shared->Prop}{s:Shared}{K:aa}{x dx C f:Addr}{mA:Str->Option Value}{name:Str}{v:Value}
end
section
variable {P:Program}{w:World}{H H':Hp}{h h':Heap}{a C dx:Addr}{fs fs':List (Str × V)}
end
section
variable {X:Cx}{pins:List (Addr × Obj)}{σ:St}{H:Hp}{s:Shared}{a C dx:Addr}{fs:List (Str × V)}{f:Str}{v:V}{A:Around}{E:Value->Shared->Prop}
end
section
variable {X:Cx}{o e value:Expr}{f:Str}{pos pos' tpos:Pos}{ta tv:TE}
end
section
variable {X:Cx}{pins:List (Addr × Obj)}{σ:St}{H:Hp}{s:Shared}{A:Around}{E:Value->Shared->Prop}{Q:Value->Shared->Prop}{c:Value}{b:Bool}
end
structure Room (k:Nat)(A:Around):Prop where
 hd:A.handled=none
 dp:A.depth+3*k+5<recursionLimit
 un:A.units+16*k+200<cLine
 gd:A.guards=some []
theorem Room.mono {j k:Nat}{A:Around}(r:Room k A)(h:j<=k):Room j A:=⟨r.hd,by have:=r.dp;omega,by have:=r.un;omega,r.gd⟩
theorem Room.deeper {k:Nat}{A:Around}(r:Room (k+1) A)(env:Env):Room k (A.deeper env):=
 ⟨r.hd,by have:=r.dp;show A.depth+1+3*k+5<_;omega,by have:=r.un;show A.units+3+16*k+200<_;omega,r.gd⟩
theorem Room.depth {k:Nat}{A:Around}(r:Room k A):A.depth<recursionLimit:=by have:=r.dp;omega
def aO:TA:=fun _ H Q=>Q [] H
def aC (ta:TE) (tr:TA):TA:=fun σ H Q=>ta σ H fun x H1=>tr σ H1 fun xs H2=>Q (x :: xs) H2
section
variable {X:Cx}{e:Expr}{es:List Expr}{te:TE}{t:TA}{pos:Pos}
theorem aE:PA X [] aO:=fun _ _ _ _ H Q I h=>Calls.spliced_nil ⟨[],H,I, .nil,h⟩
theorem cL (ha:PE X e te)(hr:PA X es t)(hs:dz (e :: es) X.env=(false,eval e X.env) :: dz es X.env:=by rfl):PA X (e :: es) (aC te t):=by
 intro pos pins s σ H Q I h
 rw[hs]
 show wpAny _ _ (spliced ((false,eval e X.env) :: rh pos (dz es X.env))) _ _ s
 refine Calls.spliced_cons (thn (ha pins s σ H _ I h) fun u s1 ⟨x,H1,I1,r1,q1⟩=>?_)
 exact thn (hr pos pins s1 σ H1 _ I1 q1) fun us s2 ⟨xs,H2,I2,r2,q2⟩=>⟨x :: xs,H2,I2, .cons r1 r2,q2⟩
def iN (t:TA):TE:=fun σ H Q=>t σ H fun xs H1=>xs.length<=ba/\∀ p,H1 p=none->Q (.ref p) (upd H1 p (.tup xs))
def lX (t:TA):TE:=fun σ H Q=>t σ H fun xs H1=>xs.length<=ba/\∀ p,H1 p=none->Q (.ref p) (upd H1 p (.lst xs))
theorem cY {x1}(h:PA X es t):PE X (.Tuple es x1 pos) (iN t):=by
 intro pins s σ H Q I hq
 refine wpAny_Tuple_spliced (thn (h pos pins s σ H _ I hq) fun us s1 ⟨xs,H1,I1,r,z,q⟩=>⟨by rw[<- r.length];exact z,?_⟩)
 have hf:H1 s1.heap.objs.size=none:=I1.hok.fresh (bg _)
 refine ⟨.ref s1.heap.objs.size,upd H1 s1.heap.objs.size (.tup xs),I1.laid (t':=s1.toks) (fun b u e=>aj _ e) (bg _) ?_,rfl,q _ hf⟩
 exact ⟨z,us,r,TupN.new _ _⟩
theorem dR (h:PA X es t):PE X (.List es pos) (lX t):=by
 intro pins s σ H Q I hq
 refine wpAny_List_spliced (thn (h pos pins s σ H _ I hq) fun us s1 ⟨xs,H1,I1,r,z,q⟩=>⟨by rw[<- r.length];exact z,?_⟩)
 have hf:H1 s1.heap.objs.size=none:=I1.hok.fresh (bg _)
 refine ⟨.ref s1.heap.objs.size,upd H1 s1.heap.objs.size (.lst xs),I1.laid (t':=s1.toks) (fun b u e=>aj _ e) (bg _) ?_,rfl,q _ hf⟩
 exact ⟨z,us,0,r,bh _ rfl⟩
end
abbrev Sp:=List V->Hp->VK->XK->Prop
abbrev CXT:=List Env->Hp->Shared->XK->Value->Shared->Prop
structure aJD (P:Program)(w:World)(K:aa)(mg:Str->Option Value)(base:Heap)(A:Around)(outer:List Env)(s:Shared)(H:Hp):Prop where
 frames:A.frames=some outer
 mod:Mod K mg base
 bs:∀ b o,base.get? b=some o->s.heap.get? b=some o/\H b=none
 bsz:base.objs.size<=s.heap.objs.size
 funs:s.heap.FunFrames base outer
 frf:∀ b∈frs outer,H b=none
 hok:HOk P w H s.heap
 bare:tm s.gens
def CE (outer:List Env) (P:Program) (w:World) (H:Hp) (s:Shared) (Q:VK) (u:Value) (s':Shared):Prop:=
 ∃ v H',s'.os=s.os/\tm s'.gens/\Un (frs outer) [] H H' s.heap s'.heap/\HOk P w H' s'.heap/\RelV v u/\Q v H'
def CR (CX:CXT) (outer:List Env) (P:Program) (w:World) (H:Hp) (s:Shared) (Q:VK) (E:XK) (r:vv) (s':Shared):Prop:=
 match r with
 | .ok (.ret u)=>CE outer P w H s Q u s'
 | .ok _=>False
 | .error e=>CX outer H s E e s'
structure FnOk (P:Program)(w:World)(K:aa)(mg:Str->Option Value)(base:Heap)(CX:CXT)(k:Nat)(f:Addr)(fd:FuncData)(ps:List Str)(sp:Sp):Prop where
 len:∀ vs H Q E,sp vs H Q E->vs.length=ps.length
 run:∀ (A:Around) (outer:List Env) (s:Shared) (H:Hp) (args:Args) (us:List Value) (vs:List V) (Q:VK) (E:XK),Room k A->aJD P w K mg base A outer s H->za s fd args (ps.zip us)->Vals vs us->sp vs H Q E ->
  uq (model P w) A (.call (.ref f) args) (CR CX outer P w H s Q E) s
theorem FnOk.mono {P:Program}{w:World}{K:aa}{mg:Str->Option Value}{base:Heap}{CX:CXT}{j k:Nat}{f:Addr}{fd:FuncData}{ps:List Str}{sp:Sp}(F:FnOk P w K mg base CX j f fd ps sp)(h:j<=k) :
  FnOk P w K mg base CX k f fd ps sp:=⟨F.len,fun A outer s H args us vs Q E hr=>F.run A outer s H args us vs Q E (hr.mono h)⟩
section
variable {X:Cx}{pins:List (Addr × Obj)}{σ:St}{H:Hp}{s s':Shared}
theorem Inv.env0 (I:Inv X pins σ H s):aJD X.prog X.w X.K X.mg X.base X.A X.stack s H:=
 ⟨I.ok.frames,I.ok.mod,I.bs,dg I.ok.bsz I.sz,I.stack,I.stkFree,I.hok,I.bare⟩
theorem Inv.after {Q:VK}{u:Value}(I:Inv X pins σ H s)(h:CE X.stack X.prog X.w H s Q u s'):EP X pins σ Q u s':=by
 obtain⟨v,H',os,bare,un,hok,r,q⟩:=h
 obtain⟨hh,g,d,t,os'⟩:=s'
 obtain rfl:os'=s.os:=os
 exact ⟨v,H',I.call (h':=hh) (g':=g) (d':=d) (t':=t) (ch:=[]) un hok bare (fun b z=>absurd z (by simp)),r,q⟩
end
def bG (sp:Sp) (dvs:List V) (E:XK) (t:TA):TE:=fun σ H Q=>t σ H fun vs H1=>sp (vs++dvs) H1 Q E
def Binds (K:aa) (fd:FuncData) (ps:List Str) (ds:List Value):Prop:=
 ∀ (s:Shared) (us:List Value),K.In s.heap->(us++ds).length=ps.length->za s fd ⟨us,[]⟩ (ps.zip (us++ds))
theorem Binds.all {K:aa}{fd:FuncData}{ps:List Str}(h:∀ us:List Value,us.length=ps.length->bindArgs fd ⟨us,[]⟩=pure (ps.zip us)):Binds K fd ps []:=fun s us _ hl=>by
 rw[i4] at hl ⊢
 exact .of_eq (h us hl)
def pJ (CX:CXT) (X:Cx) (E:XK):Prop:=∀ (pins:List (Addr × Obj)) (σ:St) (H:Hp) (s:Shared) (e:Value) (s':Shared),Inv X pins σ H s->CX X.stack H s E e s'->X.xe e s'
section
variable {X:Cx}{CX:CXT}{k:Nat}{f C:Addr}{fd:FuncData}{ps:List Str}{sp:Sp}{dvs:List V}{ds:List Value}{E:XK}{x m:Str}{p pos apos:Pos}{e o:Expr}{es:List Expr}{ta:TE}{t:TA}
theorem aFO {pins:List (Addr × Obj)}{σ:St}{H:Hp}{s:Shared}{Q:VK}{us:List Value}{vs:List V}(F:FnOk X.prog X.w X.K X.mg X.base CX k f fd ps sp)(hr:Room k X.A)(hb:Binds X.K fd ps ds)(hd:Vals dvs ds)(hx:pJ CX X E)
  (I:Inv X pins σ H s) (r:Vals vs us) (h:sp (vs++dvs) H Q E):wpAny (model X.prog X.w) X.A (call (.ref f) us) (EP X pins σ Q) X.xe s:=by
 have r2:Vals (vs++dvs) (us++ds):=r.append hd
 have hl:(us++ds).length=ps.length:=by rw[<- r2.length];exact F.len _ _ _ _ h
 refine yh (j3 (F.run X.A X.stack s H ⟨us,[]⟩ (us++ds) (vs++dvs) Q E hr I.env0 (hb s us I.kIn hl) r2 h) fun r s' hq=>?_)
 cases r with
 | error e=>exact hx pins σ H s e s' I hq
 | ok fl=>
  cases fl with
  | ret u=>exact I.after hq
  | next=>exact ju hq
  | brk=>exact ju hq
  | cont=>exact ju hq
theorem aCX (F:FnOk X.prog X.w X.K X.mg X.base CX k f fd ps sp)(hr:Room k X.A)(hg:Gl X x)(hm:X.mg x=some (.ref f))(hk:bj X.K (.ref f)=true)(hb:Binds X.K fd ps ds)(hd:Vals dvs ds)(hx:pJ CX X E)
  (ha:PA X (e :: es) t) (hdb:(x == ("__debug__" : Str))=false:=by decide) (he:dz (e :: es) X.env=(false,eval e X.env) :: dz es X.env:=by rfl) (hpl:(rh pos (dz es X.env)).any (·.1)=false:=by rfl) :
  PE X (.Call (.Name x p) (e :: es) [] pos) (bG sp dvs E t):=by
 intro pins s σ H Q I h
 refine rk (vU I hg hm ?_ hdb)
 refine PySem.W.callWith_K (h₀:=X.base) I.ok.mod.kin hk (thn (ha pos pins s σ H _ I h) fun us s1 ⟨vs,H1,I1,r,q⟩=>⟨I1.kIn,?_⟩) he hpl
 exact aFO F hr hb hd hx I1 r q
end
section
variable {X:Cx}{CX:CXT}{k:Nat}{f C:Addr}{fd:FuncData}{ps ks:List Str}{sp:Sp}{E:XK}{x m:Str}{p pos apos kpos:Pos}{e o:Expr}{es:List Expr}{kws:List Keyword}{te ta:TE}{t tk:TA}{nm:Option Str}
variable {g:List Value->List Value->List Value}{gV:List V->List V->List V}
end
structure bC (N P:List Str)(sc:Scope):Prop where
 kind:sc.kind = .function
 co:sc.isCoroutine=false
 gen:sc.isGenerator=false
 nd:N.Nodup
 pre:N.take P.length=P
 par:∀ x∈P,sc.names.lookup x=some .local\/sc.names.lookup x=some .cell
 nofree:∀ y∈sc.names,y.2 ≠ .free
theorem zH {kindOf:Str->Option NameKind}{x:Str}:∀ {binds:List (Str × Value)} {m:Str->Option Value},(∀ v,(x,v)∉binds)->bindL kindOf binds m x=m x
 | [],_,_=>rfl
 | (n,v) :: r,m,h=>by
  unfold bindL
  rw[zH fun w hw=>h w (bu _ hw)]
  split
  ·have:x≠n:=by rintro rfl;exact h v dh
   simp [this]
  ·rfl
theorem yI {kindOf:Str->Option NameKind}{x:Str}:∀ {binds:List (Str × Value)} {m:Str->Option Value},(∀ v,(x,v)∉binds)->bindC kindOf binds m x=m x
 | [],_,_=>rfl
 | (n,v) :: r,m,h=>by
  unfold bindC
  rw[yI fun w hw=>h w (bu _ hw)]
  split
  ·rfl
  ·have:x≠n:=by rintro rfl;exact h v dh
   simp [this]
theorem zT {kindOf:Str->Option NameKind}{x:Str}{v:Value}:∀ {P:List Str} {vs:List Value} {i:Nat} {m:Str->Option Value},P.Nodup->P[i]?=some x->vs[i]?=some v->kindOf x=some .local ->
  bindL kindOf (P.zip vs) m x=some v
 | [],_,_,_,_,h,_,_=>by simp at h
 | _ :: _,[],_,_,_,_,h,_=>by simp at h
 | p :: P,w :: vs,0,m,nd,h1,h2,hk=>by
  simp at h1 h2;subst h1;subst h2
  show bindL kindOf ((p,w) :: P.zip vs) m p=_
  unfold bindL
  rw[zH fun v hv=>(i9.mp nd).1 (vw hv).1,if_pos hk]
  simp
 | p :: P,w :: vs,i+1,m,nd,h1,h2,hk=>by
  show bindL kindOf ((p,w) :: P.zip vs) m x=_
  unfold bindL
  exact zT (i:=i) (i9.mp nd).2 (by simpa using h1) (by simpa using h2) hk
theorem zN {kindOf:Str->Option NameKind}{x:Str}{v:Value}:∀ {P:List Str} {vs:List Value} {i:Nat} {m:Str->Option Value},P.Nodup->P[i]?=some x->vs[i]?=some v->kindOf x≠some .local ->
  bindC kindOf (P.zip vs) m x=some v
 | [],_,_,_,_,h,_,_=>by simp at h
 | _ :: _,[],_,_,_,_,h,_=>by simp at h
 | p :: P,w :: vs,0,m,nd,h1,h2,hk=>by
  simp at h1 h2;subst h1;subst h2
  show bindC kindOf ((p,w) :: P.zip vs) m p=_
  unfold bindC
  rw[yI fun v hv=>(i9.mp nd).1 (vw hv).1,if_neg hk]
  simp
 | p :: P,w :: vs,i+1,m,nd,h1,h2,hk=>by
  show bindC kindOf ((p,w) :: P.zip vs) m x=_
  unfold bindC
  exact zN (i:=i) (i9.mp nd).2 (by simpa using h1) (by simpa using h2) hk
def bD (N:List Str) (vs:List V):St:=vs.map some++dc (N.length - vs.length) none
def aBh (CX:CXT) (P:Program) (w:World) (K:aa) (mg:Str->Option Value) (base:Heap) (N:List Str) (qual:Str) (scope:Scope) (f:Addr) (cd:Value) (A:Around) (outer:List Env) (s:Shared) (H:Hp) (E:XK):Cx where
 prog:=P
 w:=w
 K:=K
 mg:=mg
 base:=base
 A:=A.deeper (xy qual scope s.heap.objs.size f cd)
 N:=N
 s₀:=s
 H₀:=H
 env:=xy qual scope s.heap.objs.size f cd
 outer:=outer
 stack:=xy qual scope s.heap.objs.size f cd :: outer
 ex:=[]
 calm:=true
 fn:=fun _=>true
 pn:=[]
 xe:=fun e s'=>wpAny (model P w) (A.deeper (xy qual scope s.heap.objs.size f cd)) (leaving (xy qual scope s.heap.objs.size f cd) e) (fun _ s''=>CX outer H s E e s'') (fun e' s''=>CX outer H s E e' s'') s'
theorem aBv {sc:Scope}{n:Nat}{x:Str}(h:sc.names.lookup x=some .cell):∃ c,(ji n sc.names []).lookup x=some c:=by
 have q:=og sc.names n [] (.inl h)
 exact gc.mp q
theorem aDC {CX:CXT}{P:Program}{w:World}{K:aa}{mg:Str->Option Value}{base:Heap}{N ps:List Str}{qual:Str}{scope:Scope}{f:Addr}{cd:Value}{A:Around}{outer:List Env}{s s1:Shared}{H:Hp}{E:XK}{us:List Value}{vs:List V}
  (S:bC N ps scope) (hd:A.handled=none) (e0:aJD P w K mg base A outer s H) (hl:vs.length=ps.length) (r:Vals vs us)
  (x:InCallC s s.heap.objs.size (bindL (xy qual scope s.heap.objs.size f cd).kindOf (ps.zip us) fun _=>none) (ji (s.heap.objs.size+1) scope.names []) (bindC (xy qual scope s.heap.objs.size f cd).kindOf (ps.zip us) fun _=>none) s1) :
  Inv (aBh CX P w K mg base N qual scope f cd A outer s H E) [] (bD N vs) H s1:=by
 have hpl:ps.length<=N.length:=by have:=congrArg zb S.pre;rw[df] at this;omega
 obtain⟨h1,tk,rfl,hk⟩:=x.done
 have noA:∀ b:Addr,b∉(aBh CX P w K mg base N qual scope f cd A outer s H E).ex:=fun b z=>absurd (show b∈([]:List Addr) from z) (by simp)
 refine ⟨⟨e0.mod,S.kind,rfl,rfl,bg _,fun y z c h1 h2=>?_,fun y hy=>?_,fun y c _ h=>?_,fun _=>hd,Around.frames_deeper e0.frames, .inr ⟨rfl,rfl⟩,fun b z=>absurd z (noA b),e0.bs,e0.bsz,fun b _ _=>noA b,fun b z=>absurd z (noA b),e0.funs,e0.frf⟩,
  rfl,e0.bare,Un.kept hk,⟨_,x.toInCall.ns,fun i y v h1 h2 h3=>?_⟩,fun y c h=>⟨_,x.cell y c h⟩,e0.hok.fresh (bg _),fun y c h=>?_,fun p hp=>absurd (show p∈([]:List (Addr × Obj)) from hp) (by simp),e0.hok.kept hk,?_⟩
 ·exact name_of_addr x.apart (fu h1) (fu h2)
 ·have hy:scope.names.lookup y=some .cell\/scope.names.lookup y=some .free:=hy
  rcases hy with hy | hy
  ·exact aBv hy
  ·exact absurd rfl (S.nofree _ (fu hy))
 ·exact gy (x.above y c (fu h))
 ·have hi:i<vs.length:=by
   unfold bD at h2
   by_cases hi:i<vs.length
   ·exact hi
   ·rw[da (by simpa using hi)] at h2
    rw[kr] at h2
    split at h2 <;> cases h2
  have ha:vs[i]?=some v:=by
   unfold bD at h2
   rw[dj (by simpa using hi),cf] at h2
   cases e:vs[i]? with
   | none=>rw[e] at h2;cases h2
   | some a=>rw[e] at h2;cases h2;rfl
  obtain⟨u,hu,rv⟩:=r.get ha
  have hp:ps[i]?=some y:=by
   rw[<- S.pre,kh (by omega)];exact h1
  have ndP:ps.Nodup:=by rw[<- S.pre];exact S.nd.sublist (List.take_sublist _ _)
  refine ⟨u,rv,?_⟩
  rcases S.par y (bt hp) with k | k
  ·exact .inl ⟨k,zT ndP hp hu k⟩
  ·obtain⟨c,e⟩:=aBv (n:=s.heap.objs.size+1) k
   refine .inr ⟨.inl k,c,e,?_⟩
   have q:=x.cell y c e
   rw[zN ndP hp hu (by show scope.names.lookup y≠_;rw[k];decide)] at q
   exact q
 ·exact e0.hok.fresh (gy (x.above y c (fu h)))
 ·unfold bD
  show _=N.length
  rw[az,af,lr]
  omega
theorem aHN {CX:CXT}{P:Program}{w:World}{K:aa}{mg:Str->Option Value}{base:Heap}{k:Nat}{f:Addr}{name qual:Str}{params:Arguments}{body:List Stmt}{scope:Scope}{dV kV doc pm cdv ct oc:Value}{an od:Option Addr}
  {osl:Array (Option Value)} {N ps:List Str} {sp:Sp} (lk:K.lookup f=some ⟨oc,od, .func (bw name qual params body scope dV kV doc pm an cdv ct),osl⟩) (hcd:bp K cdv qual=true) (S:bC N ps scope)
  (len:∀ vs H Q E,sp vs H Q E->vs.length=ps.length)
  (hbody:∀ (A:Around) (outer:List Env) (s:Shared) (H:Hp) (vs:List V) (Q:VK) (E:XK),Room k (A.deeper (xy qual scope s.heap.objs.size f cdv))->sp vs H Q E ->
   ∃ t,PSs (aBh CX P w K mg base N qual scope f cdv A outer s H E) body t/\t { nx:=fun _ H'=>Q .non H',rt:=Q } (bD N vs) H) :
  FnOk P w K mg base CX (k+1) f (bw name qual params body scope dV kV doc pm an cdv ct) ps sp:=by
 refine ⟨len,fun A outer s H args us vs Q E hr e0 hb r hsp=>?_⟩
 have hl:=len _ _ _ _ hsp
 have KX:K.In s.heap:=e0.mod.kin.keeps fun b o e=>(e0.bs b o e).1
 have lim:s.heap.NoLimit:=e0.mod.nolimit.keeps fun b o e=>(e0.bs b o e).1
 have hkind:∀ y∈ps.zip us,scope.names.lookup y.1=some .local\/(scope.names.lookup y.1=some .cell/\((ji (s.heap.objs.size+1) scope.names []).lookup y.1).isSome=true):=fun ⟨n,v⟩ hy=>by
  rcases S.par n (vw hy).1 with q | q
  ·exact .inl q
  ·exact .inr ⟨q,og _ _ _ (.inl q)⟩
 refine codeAny_call_function hr.depth (KX _ _ lk) rfl S.co S.gen rfl (PySem.W.codeRec_of KX hcd) (hb _ _ _ _ ?_)
 refine wpAny_newFunctionEnv_cells S.kind hkind fun env he s1 x=>?_
 subst he
 refine ⟨lim.keeps x.toInCall.keep,codeAny_func ?_⟩
 obtain⟨t,ht,hq⟩:=hbody A outer s H vs Q E (hr.deeper _) hsp
 have I:Inv (aBh CX P w K mg base N qual scope f cdv A outer s H E) [] (bD N vs) H s1:=aDC S hr.hd e0 hl r x
 refine il (ht [] s1 (bD N vs) H _ I hq) (fun fl s' hs=>?_) fun e s' hs=>hs
 have fin:∀ {σ':St} {H':Hp} {v:V} {u:Value},Inv (aBh CX P w K mg base N qual scope f cdv A outer s H E) [] σ' H' s'->RelV v u->Q v H'->CE outer P w H s Q u s':=
  fun {σ' H' v u} J rv q=>⟨v,H',J.os,J.bare,J.base,J.hok,rv,q⟩
 cases fl with
 | ret u=>
  obtain⟨v,σ',H',J,rv,q⟩:=hs
  exact fin J rv q
 | next=>
  obtain⟨σ',H',J,q⟩:=hs
  exact fin (v:=V.non) (u:=Value.none) J rfl q
 | brk=>
  obtain⟨_,_,_,q⟩:=hs
  exact ju q
 | cont=>
  obtain⟨_,_,_,q⟩:=hs
  exact ju q
section
variable {X:Cx}{x:Str}{p pos:Pos}{e:Expr}{es:List Expr}{t:TA}{id T:String}{r:List V->Hp->VK->Prop}
def tCB (r:List V->Hp->VK->Prop) (t:TA):TE:=fun σ H Q=>t σ H fun vs H1=>r vs H1 Q
theorem aN (hc:CallR X (.builtin id) r)(hg:Gl X x)(hm:X.mg x=none)(hv:d9 x=some (.builtin id))(ha:PA X (e :: es) t)(hn:x≠"__name__":=by decide)(hdb:(x == ("__debug__" : Str))=false:=by decide)
  (he:dz (e :: es) X.env=(false,eval e X.env) :: dz es X.env:=by rfl) (hpl:(rh pos (dz es X.env)).any (·.1)=false:=by rfl):PE X (.Call (.Name x p) (e :: es) [] pos) (tCB r t):=by
 intro pins s σ H Q I h
 refine rk (rH I hg hm hv ?_ hn hdb)
 exact PyProof.Rows.callWith_builtin1 (thn (ha pos pins s σ H _ I h) fun us s1 ⟨vs,H1,I1,r1,q1⟩=>hc pins s1 σ H1 vs us Q I1 r1 q1) he hpl
theorem dY (hc:CallR X (.type T) r)(hg:Gl X x)(hm:X.mg x=none)(hv:d9 x=some (.type T))(ha:PA X (e :: es) t)(hn:x≠"__name__":=by decide)(hdb:(x == ("__debug__" : Str))=false:=by decide)
  (he:dz (e :: es) X.env=(false,eval e X.env) :: dz es X.env:=by rfl) (hpl:(rh pos (dz es X.env)).any (·.1)=false:=by rfl):PE X (.Call (.Name x p) (e :: es) [] pos) (tCB r t):=by
 intro pins s σ H Q I h
 refine rk (rH I hg hm hv ?_ hn hdb)
 exact iz (thn (ha pos pins s σ H _ I h) fun us s1 ⟨vs,H1,I1,r1,q1⟩=>hc pins s1 σ H1 vs us Q I1 r1 q1) he hpl
end
end L2
namespace HT
open PySem PyProof.Rows
def lexLt:List Int->List Int->Bool
 | [],[]=>false
 | [],_ :: _=>true
 | _ :: _,[]=>false
 | x :: xs,y :: ys=>if x=y then lexLt xs ys else decide (x<y)
theorem aCd (x y:Int)(xs ys:List Int):lexLt (x :: xs) (y :: ys)=if x=y then lexLt xs ys else decide (x<y):=rfl
theorem wY:lexLt [] []=false:=rfl
theorem tL (y:Int)(ys:List Int):lexLt [] (y :: ys)=true:=rfl
theorem uB (x:Int)(xs:List Int):lexLt (x :: xs) []=false:=rfl
theorem aFK (A:Around)(s:Shared)(a:Int)(t:Tok)(c:Int)(u:Tok):∃ e,fz A s (.int a t) (.int c u) e/\(e=true↔a=c):=
 ⟨(a == c),SeqAt.EqAt.int_int a t c u,by simp⟩
theorem aEQ (A:Around)(s:Shared)(a:Int)(t:Tok)(c:Int)(u:Tok)(prog:Program)(w:World)(E:Value->Shared->Prop)(Q:Value->Shared->Prop)(h:Q (.bool (decide (a<c))) s) :
  wpAny (model prog w) A (zd .Lt (.int a t) (.int c u)) Q E s:=
 (PyProof.Rows.lt_int h:wpAny (model prog w) A (gj .Lt (.int a t) (.int c u)) Q E s)
section
open PySem.SeqAt
open PySem.AutoSeq1 (wpAny_loadPart')
open PySem.MeetsSeq PySem.MeetsSeq2 PySem.MeetsSeq3
theorem vQ (l b:Addr)(items items2:Array Value)(n n2:Nat)(dd dd2:Option Addr)(sl sl2:Array (Option Value))(ns ms:List Int)(hi:IntsAre items.toList ns)(hj:IntsAre items2.toList ms) :
  Meets (Builtin.«tuple.__lt__» ⟨[.ref l, .ref b],[]⟩)
   (fun _ R s=>s.heap.get? l=some { cls := .type "tuple",dict:=dd,data := .seq items n,slots:=sl }/\s.heap.get? b=some { cls := .type "tuple",dict:=dd2,data := .seq items2 n2,slots:=sl2 } /\
    R (.ok (.ret (.bool (lexLt ns ms)))) s):=
 .of_wp fun prog w A R s h=>by
  obtain⟨hp,g,d,tk,os⟩:=s;obtain⟨hl,hb,h⟩:=h
  have f2:=ub
  have z1:items.size=ns.length:=by rw[<- hi.length];simp
  have z2:items2.size=ms.length:=by rw[<- hj.length];simp
  wp_walk using qo hl,qo hb,vg _ (fun rest b s'=>b.1=none/\s'=⟨hp,g,d,tk,os⟩/\∃ (vs ws:List Value) (ns' ms':List Int),rest=vs.zip ws /\
   IntsAre vs ns'/\IntsAre ws ms'/\ns'.length+items2.size=ms'.length+items.size/\R (.ok (.ret (.bool (lexLt ns' ms')))) ⟨hp,g,d,tk,os⟩) _
  case turn=>
   rintro ⟨y,x⟩ rest b s' ⟨hb',rfl,vs,ws,ns',ms',hz,hvi,hwi,hlen,hR⟩
   cases hvi with
   | nil=>rw[List.zip_nil_left] at hz;cases hz
   | cons a t hvi'=>
    cases hwi with
    | nil=>rw[List.zip_nil_right] at hz;cases hz
    | cons c u hwi'=>
     rw[rl] at hz
     injection hz with hyx hrest
     injection hyx with hy hx
     subst hy hx
     rw[aCd] at hR
     simp only [dm] at hlen
     obtain⟨e,he,hiff⟩:=aFK A.in1 ⟨hp,g,d,tk,os⟩ a t c u
     refine ae (he prog w _ _ ?_)
     cases e with
     | true=>
      rw[if_pos (hiff.mp rfl)] at hR
      wp_walk
      exact ⟨rfl,rfl,_,_,_,_,hrest,hvi',hwi',by omega,hR⟩
     | false=>
      rw[if_neg (fun q=>absurd (hiff.mpr q) br)] at hR
      have hri:=aEQ A.in1 ⟨hp,g,d,tk,os⟩ a t c u prog w
      wp_walk using hri
      exact ⟨_,rfl,by simpa using hR⟩
  case fin=>
   rintro ⟨b1,b2⟩ s' ⟨hb',rfl,vs,ws,ns',ms',hz,hvi,hwi,hlen,hR⟩
   simp only at hb'
   subst hb'
   have hv:lexLt ns' ms'=decide (items.size<items2.size):=by
    cases hvi with
    | nil=>
     cases hwi with
     | nil=>
      simp only [ni] at hlen
      rw[wY]
      exact (decide_eq_false (by omega)).symm
     | cons c u hw=>
      simp only [ni,dm] at hlen
      rw[tL]
      exact (decide_eq_true (by omega)).symm
    | cons a t hv=>
     cases hwi with
     | nil=>
      simp only [ni,dm] at hlen
      rw[uB]
      exact (decide_eq_false (by omega)).symm
     | cons c u hw=>
      rw[rl] at hz
      cases hz
   rw[hv] at hR
   wp_walk
   exact ⟨_,rfl,by simpa [Builtin.Tuple.tupleCompareSizes] using hR⟩
  case h=>
   exact ⟨rfl,rfl,items.toList,items2.toList,ns,ms,rfl,hi,hj,by omega,h⟩
end
section
variable {prog:Program}{w:World}{A:Around}{E:Value->Shared->Prop}{s:Shared}
theorem lt_tupInts {l b:Addr}{items items2:Array Value}{ns ms:List Int}{Q:Value->Shared->Prop}(hl:IsTup s.heap l items)(hb:IsTup s.heap b items2)(hi:IntsAre items.toList ns)(hj:IntsAre items2.toList ms)
  (hu:A.units<cLine) (h:Q (.bool (lexLt ns ms)) s):wpAny (model prog w) A (gj .Lt (.ref l) (.ref b)) Q E s:=by
 obtain⟨⟨cls,dd,data,sl⟩,ho,hc,n,hd⟩:=id hl
 obtain⟨⟨cls2,dd2,data2,sl2⟩,ho2,hc2,n2,hd2⟩:=id hb
 simp only at hc hd hc2 hd2
 subst hc hd hc2 hd2
 exact vm (op := .Lt) ⟨_,ho,rfl⟩ ⟨_,ho2,rfl⟩ PySem.F.slot_tuple_lt PySem.F.entry_tuple_lt (PySem.F.args_tuple_lt_2 _ _) (vQ l b items items2 n n2 dd dd2 sl sl2 ns ms hi hj)
  ⟨ho,ho2,show Value.bool (lexLt ns ms)≠Value.notImplemented/\Q (.bool (lexLt ns ms)) s from ⟨(fun x=>nomatch x),h⟩⟩ hu
theorem cat_tup {t b:Addr}{vs ws:List Value}{Q:Value->Shared->Prop}(ht:IsTup s.heap t vs.toArray)(hb:IsTup s.heap b ws.toArray)(hv:vs≠[])
  (h1:ws=[]->Q (.ref t) s) (h2:ws≠[]->Q (.ref s.heap.objs.size) { s with heap:=s.heap.push { cls := .type "tuple",data := .seq (vs++ws).toArray } })
  (hsz:vs.length+ws.length<=ba):wpAny (model prog w) A (kd .Add (.ref t) (.ref b)) Q E s:=by
 obtain⟨⟨cls,dd,data,sl⟩,ho,hc,n,hd⟩:=id ht
 obtain⟨⟨cls2,dd2,data2,sl2⟩,ho2,hc2,n2,hd2⟩:=id hb
 simp only at hc hd hc2 hd2
 subst hc hd hc2 hd2
 have e:vs.toArray++ws.toArray=(vs++ws).toArray:=by simp
 by_cases hw:ws=[]
 ·exact yp ⟨_,ho,rfl⟩ ⟨_,ho2,rfl⟩ vh ya oh nj (nc _ _)
   (tuple_addW1 t b vs.toArray ws.toArray n n2 dd dd2 sl sl2 (by simpa using hv) (by simp [hw])) ⟨ho,ho2,h1 hw⟩
 ·refine yp ⟨_,ho,rfl⟩ ⟨_,ho2,rfl⟩ vh ya oh nj (nc _ _)
   (tuple_addW2 t b vs.toArray ws.toArray n n2 dd dd2 sl sl2 (by simpa using hv) (by simpa using hw) (by rw[aq,aq];exact hsz)) ⟨ho,ho2,?_⟩
  rw[e]
  exact h2 hw
def sIx (n d:Nat):Option Int->Nat
 | none=>d
 | some v=>if v<0 then (v+(n:Int)).toNat else min v.toNat n
theorem sIx_none (n d:Nat):sIx n d none=d:=rfl
theorem sIx_nat (n d k:Nat):sIx n d (some (k:Int))=min k n:=by
 show (if (k:Int)<0 then ((k:Int)+(n:Int)).toNat else min (k:Int).toNat n)=min k n
 rw[if_neg (by omega),bz]
theorem aJg (n d:Nat)(hd:d<=n)(o:Option Int):sIx n d o<=n:=by
 cases o with
 | none=>exact hd
 | some v=>
  show (if v<0 then (v+(n:Int)).toNat else min v.toNat n)<=n
  by_cases hv:v<0
  ·rw[if_pos hv];omega
  ·rw[if_neg hv];exact Nat.min_le_right _ _
theorem aEt (v:Int)(n d:Nat):(if v<0 then max (v+(n:Int)) 0 else min v (n:Int))=((sIx n d (some v):Nat):Int):=by
 show (if v<0 then max (v+(n:Int)) 0 else min v (n:Int))=(((if v<0 then (v+(n:Int)).toNat else min v.toNat n):Nat):Int)
 by_cases hv:v<0
 ·simp only [if_pos hv];omega
 ·simp only [if_neg hv];omega
theorem aCv (lo hi:Option Int)(n:Nat):my lo hi 1 (n:Int)=(((sIx n 0 lo:Nat):Int),((sIx n n hi:Nat):Int)):=by
 have h1:¬ ((1:Int)<0):=by omega
 unfold my
 simp only [h1,if_false]
 refine y2 ?_ ?_
 ·cases lo with
  | none=>rfl
  | some v=>exact aEt v n 0
 ·cases hi with
  | none=>rfl
  | some v=>exact aEt v n n
theorem aBU (i j:Nat):j9 (i:Int) (j:Int) 1=j - i:=by
 unfold j9
 have h1:(1:Int) > 0:=by omega
 simp only [h1,if_true,Int.ediv_one]
 split <;> omega
theorem uZ {v:Value}{o:Option Int}{Q:Option Int->Shared->Prop}(p:IsPart v o)(h:Q o s):wpAny (model prog w) A (Builtin.Slice.slicePartIndex v) Q E s:=by
 cases p with
 | none=>exact slicePart_none h
 | int i t=>exact slicePart_int h
theorem sliceApplied_gen {sl:Addr}{vl vu:Value}{lo hi:Option Int}{n:Nat}{Q:Int × Int × Nat->Shared->Prop}(hs:s.heap.IsSliceOf sl vl vu .none)(pl:IsPart vl lo)(pu:IsPart vu hi)
  (h:Q (((sIx n 0 lo:Nat):Int),1,sIx n n hi - sIx n 0 lo) s):wpAny (model prog w) A (rg (.ref sl) (pure (n:Int))) Q E s:=by
 obtain⟨os,hos,hcs,hds⟩:=id hs
 unfold rg Builtin.Slice.sliceFields
 refine ae (ae (gf hos hds (x:=vl) rfl (ae (gf hos hds (x:=vu) rfl (ae (gf hos hds (x := .none) rfl (ak ?_)))))))
 refine ae (slicePart_none ?_)
 show wpAny _ _ (if ((1:Int) == 0)=true then _ else _) _ _ s
 rw[if_neg (by decide)]
 refine ae (uZ pl (ae (uZ pu (ae (ak ?_)))))
 show wpAny _ _ (match my lo hi 1 (n:Int) with | (lo,hi)=>pure (lo,(1:Int),j9 lo hi 1)) _ _ s
 rw[aCv lo hi n]
 show wpAny _ _ (pure (((sIx n 0 lo:Nat):Int),(1:Int),j9 ((sIx n 0 lo:Nat):Int) ((sIx n n hi:Nat):Int) 1)) _ _ s
 rw[aBU]
 exact ak h
theorem aER (xs:Array Value)(i k:Nat):((av k).filterMap fun (m:Nat)=>xs[((i:Int)+(m:Int)*1).toNat]?).toArray=((xs.toList.drop i).take k).toArray:=by
 have e:(fun (m:Nat)=>xs[((i:Int)+(m:Int)*1).toNat]?)=fun m=>xs[i+m]?:=by
  funext m
  have:((i:Int)+(m:Int)*1).toNat=i+m:=by omega
  rw[this]
 rw[e]
 have:=pick_run xs i k
 rw[List.filterMap_map] at this
 have e2:((fun x=>xs[x]?)∘fun x=>i+x)=fun m=>xs[i+m]?:=rfl
 rw[e2] at this
 rw[this]
theorem getItem_tuple_cut {t sl:Addr}{items:Array Value}{vl vu:Value}{lo hi:Option Int}{Q:Value->Shared->Prop}(ht:IsTup s.heap t items)(hs:s.heap.IsSliceOf sl vl vu .none)(pl:IsPart vl lo)(pu:IsPart vu hi)
  (hw:¬ (sIx items.size 0 lo=0/\sIx items.size items.size hi=items.size))
  (h:Q (.ref s.heap.objs.size) { s with heap:=s.heap.push { cls := .type "tuple",data := .seq ((items.toList.drop (sIx items.size 0 lo)).take (sIx items.size items.size hi - sIx items.size 0 lo)).toArray } })
  (hsz:items.size<=ba):wpAny (model prog w) A (yi (.ref t) (.ref sl)) Q E s:=by
 have htake:sizeOk (.seq ((items.toList.drop (sIx items.size 0 lo)).take (sIx items.size items.size hi - sIx items.size 0 lo)).toArray):=by
  show ((items.toList.drop (sIx items.size 0 lo)).take (sIx items.size items.size hi - sIx items.size 0 lo)).toArray.size<=ba
  rw[aq,df,gv,dw]
  omega
 have hj:sIx items.size items.size hi<=items.size:=aJg _ _ (bg _) hi
 obtain⟨os,hos,hcs,hds⟩:=id hs
 have hTs:s.TypeIs (.ref sl) "slice":=⟨os,hos,hcs⟩
 unfold yi
 try with_reducible refine ft ?_
 first | refine ae (ak ?_) | skip
 refine ae (wpAny_sequenceKey ht.typeIs (by decide) ?_)
 refine ae (fg (name:=j4 "__getitem__") ht.typeIs gg
  (e8 gg ht.typeIs xk ?_ (args_tuple_getitem _ _)))
 show wpAny _ _ (mw (.ref t) >>= _) _ _ s
 refine ae (tupleItemsOf_ ht ?_)
 refine ae (rn hTs ?_)
 rw[if_pos (by decide)]
 refine ae (sliceApplied_gen hs pl pu ?_)
 have hno:¬ ((((sIx items.size 0 lo:Nat):Int) == 0 && (1:Int) == 1 && (sIx items.size items.size hi - sIx items.size 0 lo) == items.size)=true):=by
  intro q
  rw[du,du] at q
  have q1:((sIx items.size 0 lo:Nat):Int)=0:=yb q.1.1
  have q2:sIx items.size items.size hi - sIx items.size 0 lo=items.size:=yb q.2
  exact hw ⟨by omega,by omega⟩
 show wpAny _ _ (if (((sIx items.size 0 lo:Nat):Int) == 0 && (1:Int) == 1 && (sIx items.size items.size hi - sIx items.size 0 lo) == items.size)=true then _ else _) _ _ s
 rw[if_neg hno,aER]
 first
  | exact ae (m:=kl _) (gq (ak ⟨_,rfl,ak h⟩) htake)
  | exact ae (m:=kl _) (gq (ae (ak (ak ⟨_,rfl,ak h⟩))) htake)
  | exact ae (ae (m:=kl _) (gq (ak (ak ⟨_,rfl,ak h⟩)) htake))
  | exact ae (ae (m:=kl _) (gq (ak ⟨_,rfl,ak h⟩) htake))
end
end HT
namespace L2
open PySem PySem.Spec PyProof.Rows
abbrev TO:=St->Hp->(Option Int->Hp->Prop)->Prop
def PO (X:Cx) (e:Option Expr) (t:TO):Prop:=
 ∀ (pins:List (Addr × Obj)) (s:Shared) (σ:St) (H:Hp) (Q:Option Int->Hp->Prop),Inv X pins σ H s->t σ H Q ->
  wpAny (model X.prog X.w) X.A (evalPart e X.env) (fun u s'=>∃ o H',Inv X pins σ H' s'/\IsPart u o/\Q o H') X.xe s
def dX:TO:=fun _ H Q=>Q none H
def iA (t:TE):TO:=fun σ H Q=>t σ H fun x H1=>∃ i,x = .int i/\Q (some i) H1
theorem kU {ns:List Int}:∀ {us:List Value},Vals (ns.map V.int) us->IntsAre us ns:=by
 induction ns with
 | nil=>intro us r;rw[yq] at r;cases r;exact .nil
 | cons n ns ih=>
  intro us r
  rw[d3] at r
  cases r with
  | cons r1 r2=>
   obtain⟨t,e⟩:=r1
   subst e
   exact .cons n t (ih r2)
section
variable {X:Cx}{e:Expr}{te:TE}{lo hi:Option Expr}{tl th:TO}{pos p2:Pos}
theorem hZ:PO X none dX:=by
 intro pins s σ H Q I h
 rw[evalPart_none]
 exact ak ⟨none,H,I, .none,h⟩
theorem eU (h:PE X e te):PO X (some e) (iA te):=by
 intro pins s σ H Q I hw
 rw[evalPart_some]
 refine thn (h pins s σ H _ I hw) fun u s1 ⟨x,H1,I1,r1,q1⟩=>?_
 obtain⟨i,rfl,q⟩:=q1
 obtain⟨t,rfl⟩:=r1
 exact ⟨some i,H1,I1, .int i t,q⟩
def SlR (X:Cx) (r:V->Option Int->Option Int->Hp->VK->Prop):Prop:=
 ∀ (pins:List (Addr × Obj)) (s:Shared) (σ:St) (H:Hp) (x:V) (v vl vu:Value) (lo hi:Option Int) (sl:Addr) (Q:VK),Inv X pins σ H s->RelV x v->s.heap.IsSliceOf sl vl vu .none->IsPart vl lo->IsPart vu hi->r x lo hi H Q ->
  ∃ T id,typeLookup (.type T) "__getitem__" = pure (some (.builtin id))/\s.TypeIs v T/\wpAny (model X.prog X.w) X.A (yi v (.ref sl)) (EP X pins σ Q) X.xe s
theorem SlR.or {r r':V->Option Int->Option Int->Hp->VK->Prop}(h:SlR X r)(h':SlR X r'):SlR X (fun x lo hi H Q=>r x lo hi H Q\/r' x lo hi H Q):=by
 intro pins s σ H x v vl vu lo hi sl Q I rx hs pl pu q
 rcases q with q | q
 ·exact h pins s σ H x v vl vu lo hi sl Q I rx hs pl pu q
 ·exact h' pins s σ H x v vl vu lo hi sl Q I rx hs pl pu q
def tSl (r:V->Option Int->Option Int->Hp->VK->Prop) (te:TE) (tl th:TO):TE:=fun σ H Q=>te σ H fun x H1=>tl σ H1 fun l H2=>th σ H2 fun u H3=>r x l u H3 Q
theorem eO {r:V->Option Int->Option Int->Hp->VK->Prop}(hr:SlR X r)(he:PE X e te)(hl:PO X lo tl)(hu:PO X hi th):PE X (.Subscript e (.Slice lo hi none p2) pos) (tSl r te tl th):=by
 intro pins s σ H Q I h
 refine Subscript_ (thn (he pins s σ H _ I h) fun v s1 ⟨x,H1,I1,r1,q1⟩=>?_)
 refine wpAny_Slice (thn (hl pins s1 σ H1 _ I1 q1) fun vl s2 ⟨l,H2,I2,pl,q2⟩=>thn (hu pins s2 σ H2 _ I2 q2) fun vu s3 ⟨u,H3,I3,pu,q3⟩=>?_)
 rw[evalPart_none]
 refine ak ?_
 have I4:Inv X pins σ H3 { s3 with heap:=s3.heap.push { cls := .type "slice",data := .fields #[vl,vu, .none] } }:=I3.kept (t':=s3.toks) fun b ob q=>aj _ q
 obtain⟨T,id,hT,ht,hg⟩:=hr pins { s3 with heap:=s3.heap.push { cls := .type "slice",data := .fields #[vl,vu, .none] } } σ H3 x v vl vu l u s3.heap.objs.size Q I4 r1 (Heap.IsSliceOf.new ..) pl pu q3
 show wpAny (model X.prog X.w) X.A (subscriptTail e (.Slice lo hi none p2) v (.ref s3.heap.objs.size)) (EP X pins σ Q) X.xe { s3 with heap:=s3.heap.push { cls := .type "slice",data := .fields #[vl,vu, .none] } }
 exact tail_any (ops:=[.ref s3.heap.objs.size,v]) ht hT hg (by with_unfolding_all rfl)
def tJ (xs:List V) (lo hi:Option Int):List V:=(xs.drop (HT.sIx xs.length 0 lo)).take (HT.sIx xs.length xs.length hi - HT.sIx xs.length 0 lo)
theorem rV (xs:List V)(lo hi:Option Int):(tJ xs lo hi).length<=xs.length:=by
 unfold tJ
 rw[df,gv]
 omega
def aLI (K:aa):V->Option Int->Option Int->Hp->VK->Prop:=fun x lo hi H Q=>∃ a xs,x = .ref a/\SqT K H a xs /\
 ¬ (HT.sIx xs.length 0 lo=0/\HT.sIx xs.length xs.length hi=xs.length)/\∀ p,H p=none->Q (.ref p) (upd H p (.tup (tJ xs lo hi)))
theorem aJf:SlR X (aLI X.K):=by
 intro pins s σ H x v vl vu lo hi sl Q I rx hs pl pu h
 obtain⟨a,xs,rfl,hx,hw,q⟩:=h
 cases rx
 obtain⟨its,r,ht,hz⟩:=I.tuple hx
 have hlen:its.toArray.size=xs.length:=by rw[aq];exact r.length.symm
 refine ⟨"tuple",_,gg.lookup,ht.typeIs,?_⟩
 refine HT.getItem_tuple_cut ht hs pl pu (by rw[hlen];exact hw) ?_ (by rw[hlen];exact hz)
 rw[hlen]
 refine ⟨.ref s.heap.objs.size,_,I.laid (t':=s.toks) (o := .tup (tJ xs lo hi)) (fun b ob q=>aj _ q) (bg _) ?_,rfl,q _ (I.hok.fresh (bg _))⟩
 exact ⟨dg (rV xs lo hi) hz,_,(r.drop (HT.sIx xs.length 0 lo)).take (HT.sIx xs.length xs.length hi - HT.sIx xs.length 0 lo),TupN.new _ _⟩
def aKC (K:aa):R2:=fun x y H Q=>∃ a b ns ms,x = .ref a/\y = .ref b/\SqT K H a (ns.map V.int)/\SqT K H b (ms.map V.int)/\Q (.bl (HT.lexLt ns ms)) H
theorem aIm (hu:X.A.units<cLine):OpR X (gj .Lt) (aKC X.K):=by
 intro pins s σ H x y v u Q I rx ry h
 obtain⟨a,b,ns,ms,rfl,rfl,ha,hb,q⟩:=h
 cases rx
 cases ry
 obtain⟨its,r1,p1,_⟩:=I.tuple ha
 obtain⟨its2,r2,p2,_⟩:=I.tuple hb
 have i1:IntsAre its.toArray.toList ns:=kU r1
 have i2:IntsAre its2.toArray.toList ms:=kU r2
 exact HT.lt_tupInts p1 p2 i1 i2 hu ⟨.bl (HT.lexLt ns ms),H,I,rfl,q⟩
def aKh (K:aa):R2:=fun x y H Q=>∃ a b xs ys,x = .ref a/\y = .ref b/\SqT K H a xs/\SqT K H b ys/\xs≠[]/\xs.length+ys.length<=ba /\
 (ys=[]->Q (.ref a) H)/\(ys≠[]->∀ p,H p=none->Q (.ref p) (upd H p (.tup (xs++ys))))
theorem Vals.nil_iff {xs:List V}{us:List Value}(r:Vals xs us):us=[]↔xs=[]:=by
 cases r with
 | nil=>simp
 | cons _ _=>simp
theorem aHc:OpR X (kd .Add) (aKh X.K):=by
 intro pins s σ H x y v u Q I rx ry h
 obtain⟨a,b,xs,ys,rfl,rfl,ha,hb,hx,hz,q1,q2⟩:=h
 cases rx
 cases ry
 obtain⟨its,r1,p1,_⟩:=I.tuple ha
 obtain⟨its2,r2,p2,_⟩:=I.tuple hb
 refine HT.cat_tup p1 p2 (fun z=>hx (r1.nil_iff.mp z)) (fun z=>⟨.ref a,H,I,rfl,q1 (r2.nil_iff.mp z)⟩) (fun z=>?_) (by rw[<- r1.length,<- r2.length];exact hz)
 refine ⟨.ref s.heap.objs.size,_,I.laid (t':=s.toks) (o := .tup (xs++ys)) (fun b ob q=>aj _ q) (bg _) ?_,rfl,q2 (fun w=>z (r2.nil_iff.mpr w)) _ (I.hok.fresh (bg _))⟩
 exact ⟨by rw[az];exact hz,_,r1.append r2,TupN.new _ _⟩
end
def ixN (n:Nat) (i:Int):Option Nat:=if 0<=i then (if i<n then some i.toNat else none) else if -(n:Int)<=i then some (i+n).toNat else none
def atI {α:Type} (xs:List α) (i:Int):Option α:=(ixN xs.length i).bind fun j=>xs[j]?
theorem aDU {n:Nat}{i:Int}{j:Nat}(h:ixN n i=some j):seqIndex? i n=some j/\j<n/\-(n:Int)<=i/\i<n:=by
 unfold ixN at h
 by_cases h0:0<=i
 ·rw[if_pos h0] at h
  by_cases h1:i<n
  ·rw[if_pos h1] at h
   have e:i.toNat=j:=bf h
   exact ⟨by rw[ze h0 h1,e],by omega,by omega,h1⟩
  ·rw[if_neg h1] at h;cases h
 ·rw[if_neg h0] at h
  by_cases h1:-(n:Int)<=i
  ·rw[if_pos h1] at h
   have e:(i+n).toNat=j:=bf h
   exact ⟨by rw[yr (by omega) h1,e],by omega,h1,by omega⟩
  ·rw[if_neg h1] at h;cases h
theorem aCI {α:Type}{xs:List α}{i:Int}{v:α}(h:atI xs i=some v):∃ j,seqIndex? i xs.length=some j/\xs[j]?=some v/\j<xs.length/\-(xs.length:Int)<=i/\i<xs.length:=by
 unfold atI at h
 cases e:ixN xs.length i with
 | none=>rw[e] at h;cases h
 | some j=>
  rw[e] at h
  obtain⟨h1,h2,h3,h4⟩:=aDU e
  exact ⟨j,h1,h,h2,h3,h4⟩
theorem aDA {α:Type}{xs:List α}{j:Nat}{v:α}(h:xs[j]?=some v):atI xs (j:Int)=some v:=by
 have hj:j<xs.length:=(ai.mp h).1
 have e:ixN xs.length (j:Int)=some j:=by
  unfold ixN
  rw[if_pos (by omega),if_pos (by omega)];simp
 unfold atI;rw[e];exact h
def aHe (b:Expr):Prop:=∀ o i,subscripted b false o i=operate [o,i] (yi o i)
def IxR (X:Cx) (r:R2):Prop:=
 ∀ (value slice:Expr) (pins:List (Addr × Obj)) (s:Shared) (σ:St) (H:Hp) (x y:V) (v u:Value) (Q:VK),Inv X pins σ H s->RelV x v->RelV y u->r x y H Q ->
  subscripted slice false v u=operate [v,u] (yi v u)->wpAny (model X.prog X.w) X.A (subscriptTail value slice v u) (EP X pins σ Q) X.xe s
def MtR (X:Cx) (id:String) (r:V->List V->Hp->VK->Prop):Prop:=
 ∀ (pins:List (Addr × Obj)) (s:Shared) (σ:St) (H:Hp) (x:V) (xs:List V) (v:Value) (us:List Value) (Q:VK),Inv X pins σ H s->RelV x v->Vals xs us->r x xs H Q ->
  wpAny (model X.prog X.w) X.A (call (.builtin id) (v :: us)) (EP X pins σ Q) X.xe s
section
variable {X:Cx}{a b:Expr}{ta tb:TE}{pos:Pos}
theorem IxR.or {r r':R2}(h:IxR X r)(h':IxR X r'):IxR X (fun x y H Q=>r x y H Q\/r' x y H Q):=by
 intro value slice pins s σ H x y v u Q I rx ry q hs
 rcases q with q | q
 ·exact h value slice pins s σ H x y v u Q I rx ry q hs
 ·exact h' value slice pins s σ H x y v u Q I rx ry q hs
theorem bE {r:R2}(hr:IxR X r)(ha:PE X a ta)(hb:PE X b tb)(hs:aHe b):PE X (.Subscript a b pos) (tOp r ta tb):=by
 intro pins s σ H Q I h
 exact Subscript_ (aLe ha hb I h fun v u s2 x y H2 I2 rx ry q=>hr a b pins s2 σ H2 x y v u Q I2 rx ry q (hs _ _))
def aJG (K:aa):R2:=fun x y H Q=>∃ p xs i v,x = .ref p/\y = .int i/\SqL K H p xs/\atI xs i=some v/\Q v H
def aJY (K:aa):R2:=fun x y H Q=>∃ p xs i v,x = .ref p/\y = .int i/\SqT K H p xs/\atI xs i=some v/\Q v H
theorem aGp:IxR X (aJG X.K):=by
 intro value slice pins s σ H x y v u Q I rx ry h hs
 obtain⟨p,xs,i,z,rfl,rfl,hq,he,q⟩:=h
 cases rx
 obtain⟨t,rfl⟩:=ry
 obtain⟨its,r,pl,hz⟩:=I.list hq
 obtain⟨j,h1,h2,h3,h4,h5⟩:=aCI he
 obtain⟨w,ew,rw'⟩:=r.get h2
 have hl:=r.length
 have hn:=yY
 have fin:EP X pins σ Q w s:=⟨z,H,I,rw',q⟩
 by_cases h0:0<=i
 ·have hj:i.toNat=j:=by
   rw[ze h0 h5] at h1
   exact bf h1
  exact item_listR pl.isList h0 (by omega) (by rw[hj];simpa using ew) fin hs
 ·have hj:(i+(its.toArray.size:Int)).toNat=j:=by
   rw[yr (by omega) h4] at h1
   rw[aq,<- hl]
   exact bf h1
  exact vn (x:=w) pl.isList.typeIs slot_list_getitem.lookup
   (wpAny_getItem_list_neg (Q:=fun r s'=>r=w/\EP X pins σ Q r s') pl.isList (by omega) (by rw[aq] <;> omega) (by omega) (by rw[hj];simpa using ew) ⟨rfl,fin⟩) hs
theorem aIY:IxR X (aJY X.K):=by
 intro value slice pins s σ H x y v u Q I rx ry h hs
 obtain⟨p,xs,i,z,rfl,rfl,hq,he,q⟩:=h
 cases rx
 obtain⟨t,rfl⟩:=ry
 obtain⟨its,r,pl,hz⟩:=I.tuple hq
 obtain⟨j,h1,h2,h3,h4,h5⟩:=aCI he
 obtain⟨w,ew,rw'⟩:=r.get h2
 have hl:=r.length
 have hn:=yY
 have fin:EP X pins σ Q w s:=⟨z,H,I,rw',q⟩
 exact vn (x:=w) pl.typeIs slot_tuple_getitem.lookup
  (getItem_tuple (j:=j) (Q:=fun r s'=>r=w/\EP X pins σ Q r s') pl (by omega) (by omega) (by rw[aq,<- hl];exact h1) (by simpa using ew) ⟨rfl,fin⟩) hs
theorem aCo (its:List Value)(n j:Nat)(u:Value):je (·.setIfInBounds j u) { cls := .type "list",data := .seq its.toArray n }={ cls := .type "list",data := .seq (its.set j u).toArray n }:=by
 simp [je]
theorem Inv.lst {pins:List (Addr × Obj)}{σ:St}{H:Hp}{s:Shared}{p:Addr}{xs:List V}(I:Inv X pins σ H s)(h:H p=some (.lst xs)) :
  ∃ (its:List Value) (n:Nat),Vals xs its/\s.heap.get? p=some { cls := .type "list",data := .seq its.toArray n }/\xs.length<=ba:=by
 obtain⟨z,its,n,r,e⟩:=I.hok p _ h
 exact ⟨its,n,r,e,z⟩
theorem Inv.lstUpd {pins:List (Addr × Obj)}{σ:St}{H:Hp}{s:Shared}{p:Addr}{xs ys:List V}{its its':List Value}{n n':Nat}{f:Obj->Obj}(I:Inv X pins σ H s)(h:H p=some (.lst xs))
  (ho:s.heap.get? p=some { cls := .type "list",data := .seq its.toArray n }) (hf:f { cls := .type "list",data := .seq its.toArray n }={ cls := .type "list",data := .seq its'.toArray n' }) (r:Vals ys its') (hz:ys.length<=ba) (t:Nat) :
  Inv X pins σ (upd H p (.lst ys)) { s with heap:=s.heap.update p f,toks:=t }:=by
 have e:(s.heap.update p f).get? p=some { cls := .type "list",data := .seq its'.toArray n' }:=by
  rw[ja f ho (by rw[hf] <;> rfl),hf]
 refine I.write (x:=p) (e:=p) (by rw[h];trivial) (.inl rfl) (fun b u hb q=>(vo _ _ (ig hb)).trans q) ⟨_,e⟩ ?_
 exact ⟨hz,its',n',r,e⟩
def fH:V->V->V->Hp->(Hp->Prop)->Prop:=fun o i v H Q=>∃ p xs k j,o = .ref p/\i = .int k/\H p=some (.lst xs)/\ixN xs.length k=some j/\Q (upd H p (.lst (xs.set j v)))
theorem fY:aLx X fH:=by
 intro pins s σ H o i v ov iv u Q I ro ri rv h
 obtain⟨p,xs,k,j,rfl,rfl,hp,hj,q⟩:=h
 cases ro
 obtain⟨t,rfl⟩:=ri
 obtain⟨its,n,r,ho,hz⟩:=I.lst hp
 obtain⟨h1,h2,h3,h4⟩:=aDU hj
 have hl:=r.length
 have hn:=yY
 have I':Inv X pins σ (upd H p (.lst (xs.set j v))) { s with heap:=s.heap.update p (je (·.setIfInBounds j u)) }:=
  I.lstUpd hp ho (aCo its n j u) (r.set rv j) (by rw[cv];exact hz) s.toks
 by_cases h0:0<=k
 ·have hk:k.toNat=j:=by
   rw[ze h0 h4] at h1
   exact bf h1
  exact PySem.W.ki_setAt ho h0 (by omega) (by rw[aq,<- hl];exact h4) (by rw[hk];exact ⟨_,I',q⟩)
 ·have hk:(k+(its.toArray.size:Int)).toNat=j:=by
   rw[yr (by omega) h3] at h1
   rw[aq,<- hl]
   exact bf h1
  exact PySem.W.ki_setBack ho (by omega) (by rw[aq,<- hl];exact h3) (by omega) (by rw[hk];exact ⟨_,I',q⟩)
theorem aAb (lo hi:Option Int)(n:Nat):(ou lo hi none n).1=((HT.sIx n 0 lo:Nat):Int)/\(ou lo hi none n).2.1=((HT.sIx n n hi:Nat):Int)/\(ou lo hi none n).2.2=1:=by
 refine ⟨?_,?_,rfl⟩
 ·cases lo with
  | none=>simp [ou,HT.sIx]
  | some i=>
   simp only [ou,HT.sIx,Option.getD_none,show (1:Int) > 0 by decide,if_true]
   by_cases h:i<0
   ·simp only [h,if_true] <;> omega
   ·simp only [h,if_false] <;> omega
 ·cases hi with
  | none=>simp [ou,HT.sIx]
  | some i=>
   simp only [ou,HT.sIx,Option.getD_none,show (1:Int) > 0 by decide,if_true]
   by_cases h:i<0
   ·simp only [h,if_true] <;> omega
   ·simp only [h,if_false] <;> omega
theorem vH (its:List Value)(lo hi:Option Int):slicePick its.toArray lo hi none=((its.drop (HT.sIx its.length 0 lo)).take (HT.sIx its.length its.length hi - HT.sIx its.length 0 lo)).toArray:=by
 obtain⟨h1,h2,h3⟩:=aAb lo hi its.toArray.size
 unfold slicePick
 rw[h1,h2,h3]
 simp only [sliceRange_one,pick_run,aq] <;> rfl
def aLA (K:aa):V->Option Int->Option Int->Hp->VK->Prop:=fun x lo hi H Q=>∃ a xs,x = .ref a/\SqL K H a xs/\∀ p,H p=none->Q (.ref p) (upd H p (.lst (tJ xs lo hi)))
theorem aHn:SlR X (aLA X.K):=by
 intro pins s σ H x v vl vu lo hi sl Q I rx hs pl pu h
 obtain⟨a,xs,rfl,hx,q⟩:=h
 cases rx
 obtain⟨its,r,ht,hz⟩:=I.list hx
 have hlen:=r.length
 refine ⟨"list",_,slot_list_getitem.lookup,ht.isList.typeIs,?_⟩
 refine wpAny_getItem_list_slice ht.isList hs pl pu .none (by simp) ?_ (by rw[aq] <;> omega)
 rw[vH,<- hlen]
 refine ⟨.ref s.heap.objs.size,_,I.laid (t':=s.toks) (o := .lst (tJ xs lo hi)) (fun b ob q=>aj _ q) (bg _) ?_,rfl,q _ (I.hok.fresh (bg _))⟩
 exact ⟨dg (rV xs lo hi) hz,_,0,(r.drop (HT.sIx xs.length 0 lo)).take (HT.sIx xs.length xs.length hi - HT.sIx xs.length 0 lo),bh _ rfl⟩
def nI:V->Bool
 | .non=>true
 | .bl _=>true
 | .int _=>true
 | .str _=>true
 | _=>false
def eqV:V->V->Bool
 | .non, .non=>true
 | .bl a, .bl b=>a == b
 | .bl a, .int b=>(if a then 1 else 0) == b
 | .int a, .bl b=>a == (if b then 1 else 0)
 | .int a, .int b=>a == b
 | .str a, .str b=>a == b
 | _,_=>false
theorem aIn {A:Around}{s:Shared}{y x:V}{u v:Value}(ry:RelV y u)(rx:RelV x v)(fy:nI y=true)(fx:nI x=true):fz A s u v (eqV y x):=by
 cases y with
 | non=>
  cases ry
  cases x with
  | non=>cases rx;exact SeqAt.EqAt.same _
  | bl b=>cases rx;exact SeqAt.EqAt.none_bool b
  | int b=>obtain⟨t,rfl⟩:=rx;exact SeqAt.EqAt.none_int b t
  | str b=>obtain⟨t,rfl⟩:=rx;exact SeqAt.EqAt.none_str b t
  | _=>exact absurd (show false=true from fx) br
 | bl a=>
  cases ry
  cases x with
  | non=>cases rx;exact SeqAt.EqAt.bool_none a
  | bl b=>cases rx;exact SeqAt.EqAt.bool_bool a b
  | int b=>obtain⟨t,rfl⟩:=rx;exact SeqAt.EqAt.bool_int a b t
  | str b=>obtain⟨t,rfl⟩:=rx;exact SeqAt.EqAt.bool_str a b t
  | _=>exact absurd (show false=true from fx) br
 | int a=>
  obtain⟨t',rfl⟩:=ry
  cases x with
  | non=>cases rx;exact SeqAt.EqAt.int_none a t'
  | bl b=>cases rx;exact SeqAt.EqAt.int_bool a t' b
  | int b=>obtain⟨t,rfl⟩:=rx;exact SeqAt.EqAt.int_int a t' b t
  | str b=>obtain⟨t,rfl⟩:=rx;exact SeqAt.EqAt.int_str a t' b t
  | _=>exact absurd (show false=true from fx) br
 | str a=>
  obtain⟨t',rfl⟩:=ry
  cases x with
  | non=>cases rx;exact SeqAt.EqAt.str_none a t'
  | bl b=>cases rx;exact SeqAt.EqAt.str_bool a t' b
  | int b=>obtain⟨t,rfl⟩:=rx;exact SeqAt.EqAt.str_int a t' b t
  | str b=>obtain⟨t,rfl⟩:=rx;exact SeqAt.EqAt.str_str a t' b t
  | _=>exact absurd (show false=true from fx) br
 | _=>exact absurd (show false=true from fy) br
def eqU (x:V) (u:Value):Bool:=match u with
 | .none=>eqV .non x
 | .bool b=>eqV (.bl b) x
 | .int i _=>eqV (.int i) x
 | .str z _=>eqV (.str z) x
 | _=>false
theorem aBC {x y:V}{u:Value}(r:RelV y u)(f:nI y=true):eqU x u=eqV y x:=by
 cases y with
 | non=>cases r;rfl
 | bl b=>cases r;rfl
 | int i=>obtain⟨t,rfl⟩:=r;rfl
 | str z=>obtain⟨t,rfl⟩:=r;rfl
 | _=>exact absurd (show false=true from f) br
theorem sD {x:V}:∀ {xs:List V} {us:List Value},Vals xs us->xs.all nI=true->us.any (eqU x)=xs.any fun y=>eqV y x
 | _,_, .nil,_=>rfl
 | y :: xs,u :: us, .cons r t,f=>by
  rw[nk,du] at f
  rw[mi,mi,aBC r f.1,sD t f.2]
theorem iS {A:Around}{s:Shared}{x:V}{v:Value}(rx:RelV x v)(fx:nI x=true):∀ {xs:List V} {us:List Value},Vals xs us->xs.all nI=true->∀ u∈us,fz A s u v (eqU x u)
 | _,_, .nil,_=>fun u hu=>by cases hu
 | y :: xs,u :: us, .cons r t,f=>fun u' hu=>by
  rw[nk,du] at f
  rcases dk.mp hu with rfl | hu
  ·rw[aBC r f.1];exact aIn r rx f.1 fx
  ·exact iS rx fx t f.2 u' hu
def inV (x:V) (xs:List V):Bool:=xs.any fun y=>eqV y x
def rIn (K:aa) (neg:Bool):R2:=fun x y H Q=>∃ p xs,y = .ref p/\(SqL K H p xs\/SqT K H p xs)/\nI x=true/\xs.all nI=true/\Q (.bl (if neg then !inV x xs else inV x xs)) H
theorem aEe:OpR X (gj .In) (rIn X.K false):=by
 intro pins s σ H x y v u Q I rx ry h
 obtain⟨p,xs,rfl,hq,fx,fs,q⟩:=h
 cases ry
 rcases hq with hq | hq
 ·obtain⟨its,r,pl,hz⟩:=I.list hq
  refine SeqAt.in_listAt (eqU x) pl.isList (fun w hw=>iS rx fx r fs w (by simpa using hw)) ⟨.bl _,H,I,rfl,?_⟩
  rw[show its.toArray.any (eqU x)=its.any (eqU x) by simp,sD r fs]
  exact q
 ·obtain⟨its,r,pl,hz⟩:=I.tuple hq
  refine SeqAt.in_tupleAt (eqU x) pl (fun w hw=>iS rx fx r fs w (by simpa using hw)) ⟨.bl _,H,I,rfl,?_⟩
  rw[show its.toArray.any (eqU x)=its.any (eqU x) by simp,sD r fs]
  exact q
theorem pF:OpR X (gj .NotIn) (rIn X.K true):=by
 intro pins s σ H x y v u Q I rx ry h
 obtain⟨p,xs,rfl,hq,fx,fs,q⟩:=h
 cases ry
 rcases hq with hq | hq
 ·obtain⟨its,r,pl,hz⟩:=I.list hq
  refine SeqAt.notIn_listAt (eqU x) pl.isList (fun w hw=>iS rx fx r fs w (by simpa using hw)) ⟨.bl _,H,I,rfl,?_⟩
  rw[show its.toArray.any (eqU x)=its.any (eqU x) by simp,sD r fs]
  exact q
 ·obtain⟨its,r,pl,hz⟩:=I.tuple hq
  refine xl (eqU x) pl (fun w hw=>iS rx fx r fs w (by simpa using hw)) ⟨.bl _,H,I,rfl,?_⟩
  rw[show its.toArray.any (eqU x)=its.any (eqU x) by simp,sD r fs]
  exact q
theorem aAa:CallR X (.builtin "len") (fun xs H Q=>∃ p ys,xs=[.ref p]/\(SqL X.K H p ys\/SqT X.K H p ys)/\Q (.int ys.length) H):=by
 intro pins s σ H xs us Q I r h
 obtain⟨p,ys,rfl,hq,q⟩:=h
 obtain⟨u,rfl,rx⟩:=xX r
 cases rx
 have hn:=yY
 rcases hq with hq | hq
 ·obtain⟨its,r',pl,hz⟩:=I.list hq
  have hlen:=r'.length
  exact Calls.call_len_list pl.isList (by simp only [aq] <;> omega) ⟨.int ys.length,H,I.tok _,⟨s.toks+1,by rw[aq,hlen]⟩,q⟩
 ·obtain⟨its,r',pl,hz⟩:=I.tuple hq
  have hlen:=r'.length
  exact len_tuple pl (by simp only [aq] <;> omega) ⟨.int ys.length,H,I.tok _,⟨s.toks+1,by rw[aq,hlen]⟩,q⟩
theorem CallR.or {f:Value}{r r':List V->Hp->VK->Prop}(h:CallR X f r)(h':CallR X f r'):CallR X f (fun xs H Q=>r xs H Q\/r' xs H Q):=by
 intro pins s σ H xs us Q I rs q
 rcases q with q | q
 ·exact h pins s σ H xs us Q I rs q
 ·exact h' pins s σ H xs us Q I rs q
theorem zL:CallR X (.type "list") (fun xs H Q=>∃ p ys,xs=[.ref p]/\(SqL X.K H p ys\/SqT X.K H p ys)/\∀ l,H l=none->Q (.ref l) (upd H l (.lst ys))):=by
 intro pins s σ H xs us Q I r h
 obtain⟨p,ys,rfl,hq,q⟩:=h
 obtain⟨u,rfl,rx⟩:=xX r
 cases rx
 have fin:∀ (its:List Value),Vals ys its->ys.length<=ba->∀ (h':Heap) (c':Nat),(∀ b o',s.heap.get? b=some o'->h'.get? b=some o') ->
   h'.get? s.heap.objs.size=some { cls := .type "list",dict:=none,data := .seq its.toArray c',slots:=#[] }->EP X pins σ Q (.ref s.heap.objs.size) { s with heap:=h' }:=fun its r' hz h' c' kp e=>
  ⟨.ref s.heap.objs.size,_,I.laid (t':=s.toks) kp (bg _) (show ObjOk X.prog X.w _ h' _ (.lst ys) from ⟨hz,its,c',r',e⟩),rfl,q _ (I.hok.fresh (bg _))⟩
 rcases hq with hq | hq
 ·obtain⟨its,r',pl,hz⟩:=I.list hq
  have hlen:=r'.length
  obtain⟨o,ho,hc,n,hd⟩:=pl.isList
  exact call_list_seq p (.inl rfl) ho hc hd (fun h' c' kp e=>fin its r' hz h' c' kp e) (by simp only [aq] <;> omega)
 ·obtain⟨its,r',pl,hz⟩:=I.tuple hq
  have hlen:=r'.length
  obtain⟨o,ho,hc,n,hd⟩:=pl
  exact call_list_seq p (.inr rfl) ho hc hd (fun h' c' kp e=>fin its r' hz h' c' kp e) (by simp only [aq] <;> omega)
theorem vJ:CallR X (.type "tuple") (fun xs H Q=>∃ p ys,xs=[.ref p]/\((SqL X.K H p ys/\∀ l,H l=none->Q (.ref l) (upd H l (.tup ys)))\/(SqT X.K H p ys/\Q (.ref p) H))):=by
 intro pins s σ H xs us Q I r h
 obtain⟨p,ys,rfl,h⟩:=h
 obtain⟨u,rfl,rx⟩:=xX r
 cases rx
 rcases h with ⟨hq,q⟩ | ⟨hq,q⟩
 ·obtain⟨its,r',pl,hz⟩:=I.list hq
  have hlen:=r'.length
  refine call_tuple_list pl.isList (fun h' kp=>?_) (by simp only [aq] <;> omega)
  have I1:Inv X pins σ H { s with heap:=h' }:=I.kept (t':=s.toks) kp
  have I2:Inv X pins σ (upd H h'.objs.size (.tup ys)) { s with heap:=h'.push { cls := .type "tuple",data := .seq its.toArray } }:=
   I1.laid (t':=s.toks) (fun b o e=>aj _ e) (bg _) (show ObjOk X.prog X.w _ _ _ (.tup ys) from ⟨hz,its,r',TupN.new _ _⟩)
  exact ⟨.ref h'.objs.size,_,I2,rfl,q _ (I1.hok.fresh (bg _))⟩
 ·obtain⟨its,r',pl,hz⟩:=I.tuple hq
  exact call_tuple_same pl ⟨.ref p,H,I,rfl,q⟩
def tyV (K:aa) (T:String) (x:V) (H:Hp):Prop:=match x with
 | .str _=>T="str"
 | .int _=>T="int"
 | .ref p=>(T="list"/\∃ xs,SqL K H p xs)\/(T="tuple"/\∃ o,K.lookup p=some o/\o.cls = .type "tuple"/\o.dict=none) \/
   (T="dict"/\((∃ kvs,H p=some (.dK kvs))\/∃ kvs,H p=some (.dT kvs)))\/(T="set"/\∃ S n,H p=some (.set S n))
 | _=>False
theorem aIf {pins:List (Addr × Obj)}{σ:St}{H:Hp}{s:Shared}{T:String}{x:V}{v:Value}(I:Inv X pins σ H s)(r:RelV x v)(ty:tyV X.K T x H) :
  s.TypeIs v T/\∀ a,v = .ref a->∃ ob,s.heap.get? a=some ob/\ob.dict=none:=by
 cases x with
 | str z=>
  obtain⟨t,rfl⟩:=r
  cases (show T="str" from ty)
  exact ⟨typeIs_str s z t,fun _ e=>nomatch e⟩
 | int i=>
  obtain⟨t,rfl⟩:=r
  cases (show T="int" from ty)
  exact ⟨typeIs_int s i t,fun _ e=>nomatch e⟩
 | ref p=>
  cases r
  rcases ty with ⟨rfl,xs,hq⟩ | ⟨rfl,o,hk,hc,hd⟩ | ⟨rfl,hk⟩ | ⟨rfl,S,n,hk⟩
  ·obtain⟨its,_,pl,_⟩:=I.list hq
   refine ⟨pl.isList.typeIs,fun a e=>?_⟩
   cases e
   obtain⟨o,n,e,c,hd,_⟩:=pl
   exact ⟨o,e,hd⟩
  ·refine ⟨⟨o,I.kIn p o hk,hc⟩,fun a e=>?_⟩
   cases e
   exact ⟨o,I.kIn _ o hk,hd⟩
  ·have z:∃ o,s.heap.get? p=some o/\o.ExactDict:=by
    rcases hk with ⟨kvs,hk⟩ | ⟨kvs,hk⟩
    ·obtain⟨_,_,_,_,o,_,_,e,ex,_⟩:=I.hok p _ hk
     exact ⟨o,e,ex⟩
    ·obtain⟨_,_,_,_,o,_,_,e,ex,_⟩:=I.hok p _ hk
     exact ⟨o,e,ex⟩
   obtain⟨o,e,ex⟩:=z
   refine ⟨⟨o,e,ex.1⟩,fun a e2=>?_⟩
   cases e2
   exact ⟨o,e,ex.2.1⟩
  ·obtain⟨o,_,_,_,e,ex,_⟩:=I.hok p _ hk
   refine ⟨⟨o,e,ex.1⟩,fun a e2=>?_⟩
   cases e2
   exact ⟨o,e,ex.2.1⟩
 | _=>exact ju ty
def tBM (K:aa) (T:String) (r:V->List V->Hp->VK->Prop) (to:TE) (t:TA):TE:=fun σ H Q=>to σ H fun x H1=>tyV K T x H1/\t σ H1 fun xs H2=>r x xs H2 Q
variable {o e:Expr}{es:List Expr}{to:TE}{t:TA}{name:Str}{apos cpos:Pos}{T id:String}{r:V->List V->Hp->VK->Prop}
theorem aKP (pa:PlainAttrs T)(slot:Slot T name id)(hty:typeOf (.builtin id)=pure (.type "method_descriptor"))(hm:MtR X id r)(ho:PE X o to)(ha:PA X (e :: es) t)
  (hbase:attributeBase o name X.env (eval o X.env)=eval o X.env:=by rfl)
  (hfew:((rh cpos (dz (e :: es) X.env)).all (fun x=>!x.1) && (backToKw cpos (zf [] X.env)).all (fun x=>x.1.isSome)
   && decide ((e :: es).length+([]:List Keyword).length+(if ([]:List Keyword).isEmpty then 0 else 1)<30))=true:=by rfl)
  (hline:(apos.endLine == cpos.line)=true:=by rfl) (hs:dz (e :: es) X.env=(false,eval e X.env) :: dz es X.env:=by rfl) (hplain:(rh cpos (dz es X.env)).any (·.1)=false:=by rfl) :
  PE X (.Call (.Attribute o name apos) (e :: es) [] cpos) (tBM X.K T r to t):=by
 intro pins s σ H Q I h
 refine wpAny_Call_method_late hbase hfew hline rfl (thn (ho pins s σ H _ I h) fun v s1 ⟨x,H1,I1,r1,ty,q1⟩=>?_)
 obtain⟨h1,h2⟩:=aIf I1 r1 ty
 refine ⟨T,id,pa,slot,hty,h1,h2,?_⟩
 have hA:=ha cpos pins s1 σ H1 _ I1 q1
 rw[hs] at hA ⊢
 refine Calls.callWith_builtin (by show (false || (rh cpos (dz es X.env)).any (·.1))=false;rw[hplain] <;> rfl) (wu ?_)
 exact thn hA fun us s2 ⟨vs,H2,I2,r2,q2⟩=>hm pins s2 σ H2 x vs v us Q I2 r1 r2 q2
end
def MtM (X:Cx) (id:String) (r:V->List V->Hp->VK->Prop):Prop:=
 ∀ (pins:List (Addr × Obj)) (s:Shared) (σ:St) (H:Hp) (x:V) (xs:List V) (v:Value) (us:List Value) (Q:VK),Inv X pins σ H s->RelV x v->Vals xs us->r x xs H Q ->
  wpAny (model X.prog X.w) X.A (call (.builtin id) (v :: us)) (EP X pins σ Q) X.xe s
theorem Vals.one:∀ {x:V} {us:List Value},Vals [x] us->∃ u,us=[u]/\RelV x u
 | _,_, .cons r .nil=>⟨_,rfl,r⟩
theorem Vals.two:∀ {x y:V} {us:List Value},Vals [x,y] us->∃ u v,us=[u,v]/\RelV x u/\RelV y v
 | _,_,_, .cons r (.cons q .nil)=>⟨_,_,rfl,r,q⟩
theorem Vals.rep {xs:List V}{us:List Value}(h:Vals xs us):∀ k:Nat,Vals (dc k xs).flatten (dc k us).flatten
 | 0 => .nil
 | k+1=>by
  rw[ku,ku,ow,ow]
  exact Vals.append h (Vals.rep h k)
theorem xQ (its:List Value):∀ (k:Nat) (acc:List Value),
  List.foldl (fun x1 x2=>x1++x2) acc.toArray (dc k its.toArray)=(acc++(dc k its).flatten).toArray
 | 0,acc=>by simp
 | k+1,acc=>by
  have e:acc.toArray++its.toArray=(acc++its).toArray:=by simp
  have e2:(acc++its)++(dc k its).flatten=acc++(dc (k+1) its).flatten:=by
   rw[ku,ow,ip]
  rw[<- e2,<- xQ its k (acc++its),<- e,ku,List.foldl_cons]
section
variable {X:Cx}{pins:List (Addr × Obj)}{σ:St}{H:Hp}{s:Shared}{l b:Addr}{xs ys zs:List V}
theorem Inv.lset {its its':List Value}{n:Nat}{f:Array Value->Array Value}{t':Nat}(I:Inv X pins σ H s)(hH:H l=some (.lst xs))
  (e:s.heap.get? l=some { cls := .type "list",data := .seq its.toArray n }) (hf:f its.toArray=its'.toArray) (hv:Vals ys its') (hz:ys.length<=ba) :
  Inv X pins σ (upd H l (.lst ys)) { s with heap:=s.heap.update l (je f),toks:=t' }:=by
 have q:=PySem.IsL.update e f
 rw[hf] at q
 refine I.write (x:=l) (e:=l) (by rw[hH];exact trivial) (.inl rfl) (fun b' u hb hu=>(vo s.heap (je f) (ig hb)).trans hu) ⟨_,q⟩ ?_
 exact ⟨hz,its',_,hv,q⟩
theorem Inv.lnew {its:List Value}{t':Nat}(I:Inv X pins σ H s)(hv:Vals ys its)(hz:ys.length<=ba) :
  Inv X pins σ (upd H s.heap.objs.size (.lst ys)) { s with heap:=s.heap.push { cls := .type "list",data := .seq its.toArray },toks:=t' }:=
 I.laid (fun _ _ q=>aj _ q) (bg _) ⟨hz,its,0,hv,bh _ rfl⟩
theorem Inv.fresh (I:Inv X pins σ H s):H s.heap.objs.size=none:=I.hok.fresh (bg _)
theorem Inv.lstM (I:Inv X pins σ H s)(hH:H l=some (.lst xs)):xs.length<=ba/\∃ (its:List Value) (n:Nat),Vals xs its/\xs.length=its.length/\s.heap.get? l=some { cls := .type "list",data := .seq its.toArray n }:=by
 obtain⟨z,its,n,r,e⟩:=I.hok l _ hH
 exact ⟨z,its,n,r,r.length,e⟩
theorem aEI {n:Nat}(h:n<=ba):ng n=false:=by
 unfold ng
 exact decide_eq_false (by omega)
end
section
variable {X:Cx}
def nY:V->List V->Hp->VK->Prop:=fun x vs H Q=>∃ l xs y,x = .ref l/\vs=[y]/\H l=some (.lst xs)/\xs.length<ba/\Q .non (upd H l (.lst (xs++[y])))
theorem kC:MtM X "list.append" nY:=by
 intro pins s σ H x vs v us Q I rx rv h
 obtain⟨l,xs,y,rfl,rfl,hH,hz,q⟩:=h
 cases rx
 obtain⟨u,rfl,ru⟩:=rv.one
 obtain⟨z,its,n,r,hl,e⟩:=I.lstM hH
 refine wk F.slot_list_append ⟨_,e,rfl⟩ F.entry_list_append (F.args_list_append_2 _ _) (PySem.list_append l its.toArray n u (by rw[aq];omega)) ⟨e,?_⟩
 refine ⟨.non,_,I.lset (its':=its++[u]) hH e (by simp) (r.append (.cons ru .nil)) ?_,rfl,q⟩
 rw[az,lu]
 omega
def aLo:R2:=fun x y H Q=>∃ l b xs zs,x = .ref l/\y = .ref b/\H l=some (.lst xs)/\H b=some (.lst zs)/\xs.length+zs.length<=ba/\∀ p,H p=none->Q (.ref p) (upd H p (.lst (xs++zs)))
theorem aIt:OpR X (kd .Add) aLo:=by
 intro pins s σ H x y v u Q I rx ry h
 obtain⟨l,b,xs,zs,rfl,rfl,hH,hB,hz,q⟩:=h
 cases rx
 cases ry
 obtain⟨z,its,n,r,hl,e⟩:=I.lstM hH
 obtain⟨z2,its2,n2,r2,hl2,e2⟩:=I.lstM hB
 refine PySem.P.add_list e e2 ?_ (by rw[aq,aq];omega)
 have ea:its.toArray++its2.toArray=(its++its2).toArray:=by simp
 rw[ea]
 exact ⟨.ref _,_,I.lnew (t':=s.toks) (r.append r2) (by rw[az];omega),rfl,q _ I.fresh⟩
def aLw:R2:=fun x y H Q=>∃ l k xs,x = .ref l/\y = .int k/\H l=some (.lst xs)/\-(2 ^ 63)<=k/\k<2 ^ 63/\xs.length*k.toNat<=ba /\
 ∀ p,H p=none->Q (.ref p) (upd H p (.lst (dc k.toNat xs).flatten))
theorem aGG {α:Type}(xs:List α)(k:Nat):(dc k xs).flatten.length=k*xs.length:=by
 induction k with
 | zero=>simp
 | succ k ih=>rw[ku,ow,az,ih,Nat.succ_mul,Nat.add_comm]
theorem aJm:OpR X (kd .Mult) aLw:=by
 intro pins s σ H x y v u Q I rx ry h
 obtain⟨l,k,xs,rfl,rfl,hH,h1,h2,hz,q⟩:=h
 cases rx
 obtain⟨t,rfl⟩:=ry
 obtain⟨z,its,n,r,hl,e⟩:=I.lstM hH
 have hlen:its.toArray.size*k.toNat<=ba:=by rw[aq,<- hl];exact hz
 have hcap:¬ its.toArray.size*k.toNat > (2 ^ 63 - 1) / 8:=by
  have:(ba:Nat)<=(2 ^ 63 - 1) / 8:=by decide
  omega
 have hfit:¬ (!Builtin.List.listFitsIndex k)=true:=by
  rw[fitsIndex_both h1 h2]
  exact br
 have hlong:¬ ng (its.toArray.size*k.toNat)=true:=by
  rw[aEI hlen]
  exact br
 have hnew:List.foldl (fun x1 x2=>x1++x2) #[] (dc (if its.toArray.isEmpty=true then 0 else k.toNat) its.toArray)=(dc k.toNat its).flatten.toArray:=by
  have f0:∀ m:Nat,List.foldl (fun x1 x2=>x1++x2) #[] (dc m its.toArray)=(dc m its).flatten.toArray:=fun m=>by
   have:=xQ its m []
   rw[List.nil_append] at this
   exact this
  rw[f0]
  cases its with
  | nil=>simp
  | cons a r'=>rw[if_neg (by simp)]
 refine wpAny_binaryOp_repeat_ref (T:="list") (U:="int") (by decide) ⟨_,e,rfl⟩ (fun s'=>typeIs_int s' k t) noFill_list_mul F.fills_int_mul F.slot_int_rmul repeat_list F.slot_int_index.lookup
  (wk F.slot_int_rmul (typeIs_int s k t) F.entry_int_rmul (F.args_int_rmul_2 _ _) (int___rmul___int_list k t l its.toArray n)
   ⟨e,rfl,⟨_,e,rfl⟩,wk F.slot_list_mul ⟨_,e,rfl⟩ F.entry_list_mul (F.args_list_mul_2 _ _) (AutoListH.list___mul___list_int_3 l its.toArray n k t hfit hcap hlong) ⟨e,?_⟩⟩)
 rw[hnew]
 exact ⟨.ref _,_,I.lnew (t':=s.toks) (r.rep k.toNat) (by rw[aGG,Nat.mul_comm];exact hz),rfl,q _ I.fresh⟩
end
section
variable {prog:Program}{w:World}{A:Around}{E:Value->Shared->Prop}{s:Shared}
end
section
variable {X:Cx}
end
end L2
namespace Att
open PySem PySem.W PySem.Calls PyProof.Rows
theorem rN {P:Params}{h:Heap}:∀ (ns:List Int) (vs:List Value),WellAll P h vs (ns.map WData.int)->IntsAre vs ns:=by
 intro ns
 induction ns with
 | nil=>
  intro vs w
  rw[yq] at w
  cases w
  exact .nil
 | cons n ns ih=>
  intro vs w
  rw[d3] at w
  cases w with
  | cons a b=>
   cases a
   exact .cons _ _ (ih _ b)
theorem aDW {l:OpenLaw}{n:Nat}(hn:l.most=some n){P:Params}{h:Heap}{args:List WData}{vals:List Value}
  (hpre:l.row.toRowW.claim.pre args=true) (hwl:WellAll P h vals args) :
  ∃ a vs ns,vals=[Value.ref a]/\args=[WData.list (ns.map WData.int)]/\h.get? a=some { cls := .type "list",data := .seq vs.toArray }/\IntsAre vs ns/\ns.length<=n:=by
 have hsh:WShape.hasAll [] args [.list .int]=true:=(pre_splitW hpre).1
 have hc:l.pre.holds [] { args:=args }=true:=(pre_splitW hpre).2
 obtain⟨d,r,rfl,h1,h2⟩:=hasAllW_cons hsh
 obtain rfl:=hasAllW_nil h2
 obtain⟨xs,rfl,h3⟩:=hasW_list h1
 obtain⟨ns,rfl⟩:=items_int h3
 have hlen:ns.length<=n:=by
  unfold OpenLaw.pre at hc
  have h4:(WTm.not (.lt (.lit (.int (n:Int))) (.len (.arg 0)))).holds [] { args:=[.list (ns.map .int)] }=true:=by
   have h4:=(holds_andW hc).1
   rw[hn] at h4
   exact h4
  have h5:=condW_of h4 (w_not (w_lt w_lit (w_len_list (w_arg rfl))))
  rw[af] at h5
  refine Nat.le_of_not_lt fun q=>?_
  have q':(n:Int)<((ns.length:Nat):Int):=by omega
  first
   | (rw[decide_eq_true q'] at h5;exact absurd h5 (by decide))
   | (simp at h5;omega)
 cases hwl with
 | cons w1 w2=>
  cases w2
  cases w1 with
  | list ho hall=>exact ⟨_,_,ns,rfl,rfl,ho,rN ns _ hall,hlen⟩
theorem aEo (l:OpenLaw)(args:List WData):l.row.toRowW.claim.post args (.bool true) args=true:=
 postW_of (r:=l.row.toRowW) (X:=(true == true))
  (show WShape.has [] (.bool true) .bool=true by first | rfl | decide | simp [WShape.has,WShape.arms,WShape.armsAll])
  (show (WTm.eq .res (.lit (.bool true))).value [] { args:=args,res:=some (.bool true),after:=args }=some (.bool (true == true)) from w_eq_bool (w_res rfl) w_lit) rfl
theorem attach_call {l:OpenLaw}{n:Nat}{q:Program}{loose:List Str}{XP:(Str->Option Value)->Heap->Prop}{YP:World->Heap->Prop}{d:DefRec}
  (hn:l.most=some n) (hdf:d.params.defaults=[])
  (call:∀ (w:World) (s₀ s₁:Shared) (mg mb:Str->Option Value) (fa:Addr) (o:Obj) (pm cd doc:Value) (a:Addr) (vs:List Value) (ns:List Int),
   Ground q loose [] XP w s₀ mg mb s₁.heap->YP w s₁.heap ->
   s₁.heap.get? fa=some o->o.data = .func (docDef d.name d.params d.body d.scope pm cd doc)->s₁.heap.CodeRec cd d.name->mg d.name=some (.ref fa) ->
   s₁.heap.get? a=some { cls := .type "list",data := .seq vs.toArray }->IntsAre vs ns->ns.length<=n->s₁.gens=#[] ->
   uq (model l.prog w) yj (.call (.ref fa) ⟨[.ref a],[]⟩) (fun r s'=>r = .ok (.ret (.bool true))/\OldK s₁.heap s'.heap/\s'.os=s₁.os/\tm s'.gens) s₁) :
  WalkO q loose XP YP l.row.toRowW d [] (fun f vs=>PySem.call f vs):=by
 intro w s₀ s₁ mg mb G Y fa o pm cd doc dV kV ho hd hcd hD hmg hg args vals as hpre hlay hrd hwl hlo
 obtain rfl:dV = .none:=Dflts.none hD hdf
 obtain rfl:kV = .none:=Dflts.noKw hD
 obtain⟨a,vs,ns,rfl,rfl,hobj,hints,hlen⟩:=aDW hn hpre hwl
 refine enter_call (j3 (call w s₀ s₁ mg mb fa o pm cd doc a vs ns G Y ho (fd_plain hd) hcd hmg hobj hints hlen hg) fun r s' hq=>?_)
 obtain⟨rfl,h2,h3,h4⟩:=hq
 exact ⟨.inl ⟨.bool true, .bool true,[],rfl,fun _=>rfl, .bool true,aEo l _,fun _=>⟨List.Pairwise.nil,fun _ hm=>(nomatch hm)⟩⟩,h2,h3,h4⟩
section
variable {prog:Program}{w:World}{A:Around}{E:Value->Shared->Prop}{s:Shared}{K:Frag}
end
end Att
namespace L2
open PySem PySem.Spec PyProof.Rows
theorem xU:∀ {vs:List Value} {ns:List Int},IntsAre vs ns->Vals (ns.map V.int) vs
 | _,_, .nil => .nil
 | _,_, .cons n t h => .cons ⟨t,rfl⟩ (xU h)
def aKX (H:Hp):Prop:=∀ b,H b=none\/∃ o xs,H b=some (.frz o (.lst xs))
theorem aFs {P:Program}{w:World}{K:aa}{mg mb:Str->Option Value}{CX:CXT}{k:Nat}{fa a:Addr}{fd:FuncData}{x:Str}{sp:Sp}{s₁:Shared}{vs:List Value}{ns:List Int}
  (KX:K.In s₁.heap) (hns:s₁.heap.Ns ar mg) (hb:s₁.heap.Ns yg mb) (hbb:∀ x:Str,x≠"__name__"->mb x=d9 x) (hlim:s₁.heap.NoLimit) (hg:s₁.gens=#[])
  (ha:s₁.heap.get? a=some { cls := .type "list",data := .seq vs.toArray }) (hi:IntsAre vs ns) (hl:ns.length<=ba) (hr:Room k yj)
  (F:∀ base:Heap,K.In base->base.Ns ar mg->FnOk P w K mg base CX k fa fd [x] sp) (hbind:∀ (s:Shared) (u:Value),za s fd ⟨[u],[]⟩ [(x,u)])
  (hsp:∀ H:Hp,aKX H->SqL K H a (ns.map V.int)->sp [.ref a] H (fun v _=>v = .bl true) fun _ _ _=>False)
  (hCX:∀ H e s',CX [] H s₁ (fun _ _ _=>False) e s'->False) :
  uq (model P w) yj (.call (.ref fa) ⟨[.ref a],[]⟩) (fun r s'=>r = .ok (.ret (.bool true))/\OldK s₁.heap s'.heap/\s'.os=s₁.os/\tm s'.gens) s₁:=by
 have rv:=xU hi
 have lenV:=hi.length
 have core:∀ H:Hp,aKX H->SqL K H a (ns.map V.int)->HOk P w H s₁.heap->(∀ b,H b≠none->b=a)->(H a≠none->K.lookup a=none) ->
   uq (model P w) yj (.call (.ref fa) ⟨[.ref a],[]⟩) (fun r s'=>r = .ok (.ret (.bool true))/\OldK s₁.heap s'.heap/\s'.os=s₁.os/\tm s'.gens) s₁:=by
  intro H hO hS hok hA hK
  have base_of:∀ {b:Addr} {o:Obj},s₁.heap.get? b=some o->H b=none->(aFt s₁.heap H).get? b=some o:=fun e n=>aES e n
  have noA:∀ {b:Addr} {o:Obj} {es:Array DictEntry} {ep:Nat},s₁.heap.get? b=some o->o.data = .dict es ep->H b=none:=fun {b o es ep} e d=>by
   cases q:H b with
   | none=>rfl
   | some u=>
    have e':b=a:=hA b (by rw[q];simp)
    subst e'
    rw[ha] at e;cases e
    have d':Data.seq vs.toArray _=Data.dict es ep:=d
    cases d'
  have nsK:∀ {b:Addr} {m:Str->Option Value},s₁.heap.Ns b m->(aFt s₁.heap H).Ns b m:=fun {b m} ⟨o,es,ep,e,d,r⟩=>⟨o,es,ep,base_of e (noA e d),d,r⟩
  have hKb:K.In (aFt s₁.heap H):=fun b o e=>base_of (KX b o e) (by
   cases q:H b with
   | none=>rfl
   | some u=>
    have e':b=a:=hA b (by rw[q];simp)
    subst e'
    rw[hK (by rw[q];simp)] at e;cases e)
  have hM:Mod K mg (aFt s₁.heap H):=⟨hKb,nsK hns,⟨mb,nsK hb,hbb⟩,let ⟨mc,h1,h2⟩:=hlim;⟨mc,nsK h1,h2⟩⟩
  have e0:aJD P w K mg (aFt s₁.heap H) yj [] s₁ H:=⟨rfl,hM,fun b o e=>aHu e,Nat.le_of_eq (aDr _ _),trivial,fun b hb=>absurd (show b∈([]:List Addr) from hb) (by simp),hok, .of_eq hg⟩
  refine j3 ((F _ hKb (nsK hns)).run yj [] s₁ H ⟨[.ref a],[]⟩ [.ref a] [.ref a] _ _ hr e0 (hbind s₁ (.ref a)) (.cons rfl .nil) (hsp H hO hS)) fun r s' h=>?_
  cases r with
  | error e=>exact (hCX H e s' h).elim
  | ok fl=>
   cases fl with
   | next=>exact ju h
   | brk=>exact ju h
   | cont=>exact ju h
   | ret u=>
    obtain⟨v,H',os,bare,un,hok',r',q⟩:=h
    have q':v = .bl true:=q
    subst q'
    obtain rfl:u=Value.bool true:=r'
    refine ⟨rfl,OldK.of_keep fun b o e=>?_,os,bare⟩
    cases q:H b with
    | none=>exact un.keep b o e q (by intro z;exact absurd (show b∈([]:List Addr) from z) (by simp)) (by simp)
    | some u=>
     rcases hO b with z | ⟨ob,xs,z⟩
     ·rw[q] at z;cases z
     ·have z2:=un.frzs b ob _ z
      obtain⟨e1,_⟩:=hok b _ z
      obtain⟨e2,_⟩:=hok' b _ z2
      rw[e] at e1;cases e1
      exact e2
 cases hk:K.lookup a with
 | some o=>
  have e:=KX a o hk
  rw[ha] at e
  cases e
  refine core (fun _=>none) (fun _ => .inl rfl) (.inr ⟨_,vs.toArray,_,hk,rfl,rfl,rfl,by rw[aq,lenV];exact hl,by simpa using rv⟩) (fun b u z=>by have z':(none:Option HO)=some u:=z;cases z') (fun b z=>absurd rfl z) fun z=>absurd rfl z
 | none=>
  refine core (fun b=>if b=a then some (.frz { cls := .type "list",data := .seq vs.toArray } (.lst (ns.map V.int))) else none) (fun b=>?_) (.inl (.inr ⟨{ cls := .type "list",data := .seq vs.toArray },if_pos rfl⟩)) (fun b u z=>?_) (fun b z=>?_) fun _=>hk
  ·by_cases hb:b=a
   ·exact .inr ⟨_,_,if_pos hb⟩
   ·exact .inl (if_neg hb)
  ·by_cases hb:b=a
   ·have z':=(if_pos hb).symm.trans z
    cases z'
    subst hb
    exact ⟨ha,by rw[af];exact hl,vs,_,rv,ha⟩
   ·have z':=(if_neg hb).symm.trans z
    cases z'
  ·by_cases hb:b=a
   ·exact hb
   ·exact absurd (if_neg hb) z
theorem aGV {l:PySem.W.OpenLaw}{n k:Nat}{q:Program}{loose:List Str}{XP:(Str->Option Value)->Heap->Prop}{YP:World->Heap->Prop}{d:DefRec}{K:Params->aa}{CX:World->CXT}{sp:World->Sp}{x:Str}
  (hn:l.most=some n) (hn2:n<=ba) (hdf:d.params.defaults=[]) (hr:Room k yj)
  (hY:∀ (w:World) (h:Heap),YP w h->(K w.params).In h)
  (F:∀ (w:World) (mg:Str->Option Value) (fa:Addr) (h:Heap),(K w.params).In h->h.Ns ar mg->mg d.name=some (.ref fa) ->
   ∃ fd:FuncData,(∀ (s:Shared) (u:Value),za s fd ⟨[u],[]⟩ [(x,u)]) /\
    ∀ base:Heap,(K w.params).In base->base.Ns ar mg->FnOk l.prog w (K w.params) mg base (CX w) k fa fd [x] (sp w))
  (hsp:∀ (w:World) (H:Hp) (a:Addr) (ns:List Int),ns.length<=n->aKX H->SqL (K w.params) H a (ns.map V.int)->sp w [.ref a] H (fun v _=>v = .bl true) fun _ _ _=>False)
  (hCX:∀ (w:World) (H:Hp) (s:Shared) (e:Value) (s':Shared),CX w [] H s (fun _ _ _=>False) e s'->False) :
  PySem.W.WalkO q loose XP YP l.row.toRowW d [] (fun f vs=>PySem.call f vs):=by
 refine Att.attach_call hn hdf fun w s₀ s₁ mg mb fa o pm cd doc a vs ns G Y ho hd hcd hmg hobj hints hlen hg=>?_
 have KX:=hY w _ Y
 obtain⟨fd,hb,hF⟩:=F w mg fa _ KX G.T.g hmg
 exact aFs KX G.T.g G.T.b G.T.builtins G.T.nolimit hg hobj hints (dg hlen hn2) hr hF hb (fun H hO hS=>hsp w H a ns hlen hO hS) fun H e s'=>hCX w H s₁ e s'
def bB (s:Stmt):Arguments:=match s with
 | .FunctionDef _ a _ _ _ _ _ _ _ _=>a
 | _=>{ posonlyargs:=[],args:=[],vararg:=none,kwonlyargs:=[],kw_defaults:=[],kwarg:=none,defaults:=[] }
def aZ (s:Stmt):List Stmt:=match s with
 | .FunctionDef _ _ b _ _ _ _ _ _ _=>b
 | _=>[]
def aJ (s:Stmt):Scope:=match s with
 | .FunctionDef _ _ _ _ _ _ sc _ _ _=>sc
 | _=>{ kind := .function,names:=[],isGenerator:=false,isCoroutine:=false }
abbrev CX0:CXT:=fun _ _ _ _ _ _=>False
abbrev E0:XK:=fun _ _ _=>False
theorem aJZ {X:Cx}:pJ CX0 X E0:=fun _ _ _ _ _ _ _ h=>h.elim
structure Fun (K:aa)(x qual:Str)(st:Stmt)(f:Addr)(fd:FuncData):Prop where
 ex:∃ (oc:Value) (od:Option Addr) (kV doc pm:Value) (an:Option Addr) (cdv ct:Value) (osl:Array (Option Value)),
  fd=bw x qual (bB st) (aZ st) (aJ st) .none kV doc pm an cdv ct/\K.lookup f=some ⟨oc,od, .func fd,osl⟩/\bp K cdv qual=true
 kp:bj K (.ref f)=true
section
variable {P:Program}{w:World}{K:aa}{mg:Str->Option Value}{base:Heap}
theorem Fun.ok {x qual:Str}{st:Stmt}{f:Addr}{fd:FuncData}{N ps:List Str}{k:Nat}{sp:Sp}(F:Fun K x qual st f fd)(S:bC N ps (aJ st))(len:∀ vs H Q E,sp vs H Q E->vs.length=ps.length)
  (hbody:∀ (cdv:Value) (A:Around) (outer:List Env) (s:Shared) (H:Hp) (vs:List V) (Q:VK) (E:XK),Room k (A.deeper (xy qual (aJ st) s.heap.objs.size f cdv))->sp vs H Q E ->
   ∃ t,PSs (aBh CX0 P w K mg base N qual (aJ st) f cdv A outer s H E).nox (aZ st) t/\t { nx:=fun _ H'=>Q .non H',rt:=Q } (bD N vs) H):FnOk P w K mg base CX0 (k+1) f fd ps sp:=by
 obtain⟨oc,od,kV,doc,pm,an,cdv,ct,osl,rfl,lk,hcd⟩:=F.ex
 refine aHN lk hcd S len fun A outer s H vs Q E hr hsp=>?_
 obtain⟨t,h,q⟩:=hbody cdv A outer s H vs Q E hr hsp
 exact ⟨t,h.nox,q⟩
theorem Fun.binds {x qual:Str}{st:Stmt}{f:Addr}{fd:FuncData}{ps:List Str}(F:Fun K x qual st f fd)
  (h:∀ (kV doc pm:Value) (an:Option Addr) (cdv ct:Value) (us:List Value),us.length=ps.length->bindArgs (bw x qual (bB st) (aZ st) (aJ st) .none kV doc pm an cdv ct) ⟨us,[]⟩=pure (ps.zip us)):Binds K fd ps []:=by
 obtain⟨oc,od,kV,doc,pm,an,cdv,ct,osl,rfl,lk,hcd⟩:=F.ex
 exact .all (h kV doc pm an cdv ct)
theorem bY {x qual:Str}{st:Stmt}{f:Addr}{oc:Value}{od an:Option Addr}{osl:Array (Option Value)}{kV doc pm cdv ct:Value}(l:K.lookup f=some ⟨oc,od, .func (bw x qual (bB st) (aZ st) (aJ st) .none kV doc pm an cdv ct),osl⟩)
  (c:bp K cdv qual=true) (k:bj K (.ref f)=true):Fun K x qual st f (bw x qual (bB st) (aZ st) (aJ st) .none kV doc pm an cdv ct):=⟨⟨oc,od,kV,doc,pm,an,cdv,ct,osl,rfl,l,c⟩,k⟩
end
section
variable {X:Cx}
theorem pv (i:Nat){x:Str}{pos:Pos}(hN:X.N[i]?=some x:=by rfl)(hv:Vis X.env.scope x:=by first | exact Or.inl rfl | exact Or.inr (Or.inl rfl) | exact Or.inr (Or.inr rfl))(hd:(x == ("__debug__" : Str))=false:=by decide)
  (hcd:(x == ("__classdict__" : Str))=false:=by decide):PE X (.Name x pos) (aF i):=aHU hN hv hd hcd
end
theorem aLD {A B:Prop}(h:B):if false=true then A else B:=by
 rw[if_neg br]
 exact h
theorem pL {c A B:Prop}[Decidable c](h1:c->A)(h2:¬ c->B):if c then A else B:=by
 by_cases h:c
 ·rw[if_pos h]
  exact h1 h
 ·rw[if_neg h]
  exact h2 h
def Same (H H':Hp):Prop:=∀ b o,H b=some o->H' b=some o
theorem Same.refl (H:Hp):Same H H:=fun _ _ h=>h
theorem Same.trans {H H1 H2:Hp}(a:Same H H1)(b:Same H1 H2):Same H H2:=fun c o h=>b c o (a c o h)
theorem Same.free {H H':Hp}(e:Same H H'){l:Addr}(h:H' l=Option.none):H l=Option.none:=by
 cases q:H l with
 | none=>rfl
 | some o=>
  rw[e l o q] at h
  cases h
theorem Same.seq {K:aa}{H H':Hp}{a:Addr}{xs:List V}(e:Same H H')(h:SqL K H a xs):SqL K H' a xs:=by
 rcases h with (h | ⟨o,h⟩) | h
 ·exact .inl (.inl (e _ _ h))
 ·exact .inl (.inr ⟨o,e _ _ h⟩)
 ·exact .inr h
section
variable {κ:Type}[DecidableEq κ]
def aDV (kvs:List (κ × V)) (k:κ):Option V:=(kvs.find? fun kv=>decide (kv.1=k)).map (·.2)
def aGk (kvs:List (κ × V)) (k:κ) (v:V):List (κ × V):=
 if (kvs.any fun kv=>decide (kv.1=k))=true then kvs.map (fun kv=>if kv.1=k then (kv.1,v) else kv) else kvs++[(k,v)]
theorem aBf {p:κ × V}{r:List (κ × V)}{k:κ}(e:p.1=k):aDV (p :: r) k=some p.2:=by simp [aDV,qp,e]
theorem aBE {p:κ × V}{r:List (κ × V)}{k:κ}(e:¬ p.1=k):aDV (p :: r) k=aDV r k:=by simp [aDV,qp,e]
theorem aBJ (k:κ):∀ kvs:List (κ × V),(kvs.any fun kv=>decide (kv.1=k))=(aDV kvs k).isSome
 | []=>rfl
 | p :: r=>by
  rw[mi]
  by_cases e:p.1=k
  ·simp only [aBf e,decide_eq_true e,yt,Option.isSome_some]
  ·rw[aBE e,decide_eq_false e,qe];exact aBJ k r
theorem RelO.isSome_eq {o:Option V}{u:Option Value}(r:RelO o u):o.isSome=u.isSome:=by
 cases o with
 | none=>cases u with
  | none=>rfl
  | some _=>exact (show False from r).elim
 | some _=>cases u with
  | none=>exact (show False from r).elim
  | some _=>rfl
theorem KV.any {kvs:List (κ × V)}{vs:List (κ × Value)}(r:KV kvs vs)(k:κ):(kvs.any fun kv=>decide (kv.1=k))=vs.any fun kv=>decide (kv.1=k):=by
 unfold KV at r
 induction r with
 | nil=>rfl
 | cons h t ih=>rw[mi,mi,ih,h.1]
theorem KV.repl {kvs:List (κ × V)}{vs:List (κ × Value)}(r:KV kvs vs)(k:κ){y:V}{u:Value}(ry:RelV y u) :
  KV (kvs.map fun kv=>if kv.1=k then (kv.1,y) else kv) (vs.map fun kv=>if kv.1=k then (kv.1,u) else kv):=by
 unfold KV at r ⊢
 induction r with
 | nil=>exact .nil
 | @cons p q ps qs h t ih=>
  rw[d3,d3]
  refine .cons ?_ ih
  obtain⟨h1,h2⟩:=h
  by_cases e:p.1=k
  ·rw[if_pos e,if_pos (h1.symm.trans e)];exact ⟨h1,ry⟩
  ·rw[if_neg e,if_neg (fun z=>e (h1.trans z))];exact ⟨h1,h2⟩
theorem KV.put {kvs:List (κ × V)}{vs:List (κ × Value)}(r:KV kvs vs)(k:κ){y:V}{u:Value}(ry:RelV y u):KV (aGk kvs k y) (stored vs k u):=by
 unfold aGk stored
 rw[r.any k]
 by_cases e:(vs.any fun kv=>decide (kv.1=k))=true
 ·rw[if_pos e,if_pos e];exact r.repl k ry
 ·rw[if_neg e,if_neg e];exact Paired.snoc r ⟨rfl,ry⟩
theorem KV.length {kvs:List (κ × V)}{vs:List (κ × Value)}(r:KV kvs vs):kvs.length=vs.length:=xx r
end
abbrev KT (H:Hp):List (List Key × V)->List (List Key × Addr × Value)->Prop:=Paired fun p q=>p.1=q.1/\H q.2.1=some (.tup (p.1.map kV))/\RelV p.2 q.2.2
theorem KT.val {H:Hp}{kvs:List (List Key × V)}{xs:List (List Key × Addr × Value)}(r:KT H kvs xs)(k:List Key):RelO (aDV kvs k) ((atKey xs k).map (·.2)):=by
 induction r with
 | nil=>exact True.intro
 | @cons p q ps qs h t ih=>
  obtain⟨h1,_,h2⟩:=h
  by_cases e:p.1=k
  ·have e':q.1=k:=h1.symm.trans e
   have b:atKey (q :: qs) k=some q.2:=by simp [atKey,qp,e']
   rw[aBf e,b];exact h2
  ·have e':¬ q.1=k:=fun z=>e (h1.trans z)
   have b:atKey (q :: qs) k=atKey qs k:=by simp [atKey,qp,e']
   rw[aBE e,b];exact ih
theorem KT.repl {H:Hp}{kvs:List (List Key × V)}{xs:List (List Key × Addr × Value)}(r:KT H kvs xs)(k:List Key){y:V}{u:Value}(ry:RelV y u) :
  KT H (kvs.map fun kv=>if kv.1=k then (kv.1,y) else kv) (xs.map (putAt k u)):=by
 induction r with
 | nil=>exact .nil
 | @cons p q ps qs h t ih=>
  rw[d3,d3]
  refine .cons ?_ ih
  obtain⟨h1,h2,h3⟩:=h
  unfold putAt
  by_cases e:p.1=k
  ·rw[if_pos e,if_pos (h1.symm.trans e)];exact ⟨h1,h2,ry⟩
  ·rw[if_neg e,if_neg (fun z=>e (h1.trans z))];exact ⟨h1,h2,h3⟩
theorem KT.put {H:Hp}{kvs:List (List Key × V)}{xs:List (List Key × Addr × Value)}(r:KT H kvs xs)(k:List Key){b:Addr}{y:V}{u:Value}(hb:H b=some (.tup (k.map kV)))(ry:RelV y u) :
  KT H (aGk kvs k y) (storedH xs k b u):=by
 have e:(kvs.any fun kv=>decide (kv.1=k))=(atKey xs k).isSome:=by
  rw[aBJ,(r.val k).isSome_eq,Option.isSome_map]
 unfold aGk storedH
 rw[e]
 by_cases q:(atKey xs k).isSome=true
 ·rw[if_pos q,if_pos q];exact r.repl k ry
 ·rw[if_neg q,if_neg q];exact Paired.snoc r ⟨rfl,hb,ry⟩
section
variable {P:Program}{w:World}{H:Hp}{h:Heap}{a:Addr}
end
def DGet (H:Hp) (a:Addr) (y:V) (r:Option V):Prop:=
 (∃ kvs k,Rd H a (.dK kvs)/\y=kV k/\r=aDV kvs k)\/∃ kvs k b,Rd H a (.dT kvs)/\y = .ref b/\H b=some (.tup (k.map kV))/\r=aDV kvs k
def DPut (H:Hp) (a:Addr) (y v:V) (H':Hp):Prop:=
 (∃ kvs k,H a=some (.dK kvs)/\y=kV k/\kvs.length<ba/\H'=upd H a (.dK (aGk kvs k v))) \/
 ∃ kvs k b,H a=some (.dT kvs)/\y = .ref b/\H b=some (.tup (k.map kV))/\kvs.length<ba/\H'=upd H a (.dT (aGk kvs k v))
theorem DGet.k {H:Hp}{a:Addr}{kvs:List (Key × V)}{k:Key}(e:H a=some (.dK kvs)):DGet H a (kV k) (aDV kvs k) := .inl ⟨kvs,k, .inl e,rfl,rfl⟩
theorem DGet.t {H:Hp}{a b:Addr}{kvs:List (List Key × V)}{k:List Key}(e:H a=some (.dT kvs))(eb:H b=some (.tup (k.map kV))):DGet H a (.ref b) (aDV kvs k) := .inr ⟨kvs,k,b, .inl e,rfl,eb,rfl⟩
theorem DPut.k {H:Hp}{a:Addr}{kvs:List (Key × V)}{k:Key}{v:V}(e:H a=some (.dK kvs))(hl:kvs.length<ba):DPut H a (kV k) v (upd H a (.dK (aGk kvs k v))) := .inl ⟨kvs,k,e,rfl,hl,rfl⟩
theorem DPut.t {H:Hp}{a b:Addr}{kvs:List (List Key × V)}{k:List Key}{v:V}(e:H a=some (.dT kvs))(eb:H b=some (.tup (k.map kV)))(hl:kvs.length<ba) :
  DPut H a (.ref b) v (upd H a (.dT (aGk kvs k v))) := .inr ⟨kvs,k,b,e,rfl,eb,hl,rfl⟩
section
variable {X:Cx}{pins:List (Addr × Obj)}{σ:St}{H:Hp}{s:Shared}{a:Addr}{y v:V}{u r:Value}{o:Option V}{A:Around}{E:Value->Shared->Prop}
end
section
variable {X:Cx}{pins:List (Addr × Obj)}{σ:St}{H:Hp}{s:Shared}{a:Addr}{kvs:List (Key × V)}{k:Key}{u:Value}{A:Around}{E:Value->Shared->Prop}
end
section
variable {X:Cx}{o i e value:Expr}{pos pos' tpos:Pos}{td ty tv:TE}
end
section
variable {X:Cx}{pos:Pos}
end
section
variable {X:Cx}{pins:List (Addr × Obj)}{σ:St}{H:Hp}{s:Shared}{a:Addr}{y d:V}{u r:Value}{o:Option V}{A:Around}{E:Value->Shared->Prop}
end
section
variable {X:Cx}{o e f:Expr}{apos cpos:Pos}{td ty tx:TE}
end
section
variable {X:Cx}{pins:List (Addr × Obj)}{σ:St}{H:Hp}{s:Shared}{a:Addr}{kvs:List (Key × V)}{A:Around}{E:Value->Shared->Prop}
end
section
variable {X:Cx}{pins:List (Addr × Obj)}{σ:St}{H:Hp}{s:Shared}{a:Addr}{y:V}{u:Value}{A:Around}{E:Value->Shared->Prop}
end
section
variable {X:Cx}
end
section
variable {κ:Type}[DecidableEq κ]
theorem aAq:∀ {l:List κ} {k:κ},l.Nodup->¬ k∈l->(l++[k]).Nodup
 | [],k,_,_=>by simp
 | a :: r,k,h,hk=>by
  obtain⟨h1,h2⟩:=i9.mp h
  show (a :: (r++[k])).Nodup
  refine i9.mpr ⟨fun m=>?_,aAq h2 fun m=>hk (dk.mpr (Or.inr m))⟩
  rcases dv.mp m with q | q
  ·exact h1 q
  ·exact hk (dk.mpr (Or.inl (cy.mp q).symm))
end
def iO (J:It) (g:TG) (tb:TS):TS:=fun D σ H=>∃ W:Nat->Nat->St->Hp->Prop,(∃ m,W 0 m σ H)/\∀ i m σ H,W i m σ H ->
 (J.stop i H/\D.nx σ H)\/(J.go i H/\∃ N:St->Hp->Prop,(∀ σ' H',N σ' H'->∃ m',m'<m/\W (i+1) m' σ' H')/\∀ x H',J.yld i H x H'->g x σ H' fun σ2 H2=>tb { D with nx:=N,ct:=N,bk:=D.nx } σ2 H2)
def zB (elt:Expr) (gens:List Comprehension) (scope:Scope) (pos:Pos) (d:Nat) (acc:Value) (env:Env) (k:Sem Fin):Sem Fin:=
 match gens[d+1]? with
 | some g'=>eval g'.iter env >>= fun x=>xj g'.iter.pos >>= fun _=>mh g'.iter env x >>= fun x=>vt [x] (y9 x) >>= fun i=>
   runOwn (.compStart (.ListComp elt gens scope pos) (d+1) i acc env) env >>= fun _=>k
 | none=>(eval elt env >>= fun x=>call (.builtin "list.append") [acc,x] >>= fun _=>pure ()) >>= fun _=>k
theorem aAy {elt target iter:Expr}{ifs:List Expr}{gens:List Comprehension}{scope:Scope}{pos:Pos}{d:Nat}(it acc:Value)(env:Env)(hg:gens[d]?=some ⟨target,iter,ifs,0⟩)
  (hn:∀ g',gens[d+1]?=some g'->g'.is_async=0) :
  compTurn (.ListComp elt gens scope pos) d it acc env=(xj iter.pos >>= fun _=>vf it >>= fun r=>match r with
   | none=>pure (.done .next)
   | some v=>qm target it v >>= fun _=>yo target env v >>= fun _=>
    (forIn ifs true fun c r=>if r=true then do let ok <- isTrue c env (eval c env);pure (ForInStep.yield ok) else pure (ForInStep.yield r)) >>= fun ok=>
     if ok=true then zB elt gens scope pos d acc env (again (.compLoop (.ListComp elt gens scope pos) d it acc env))
     else again (.compLoop (.ListComp elt gens scope pos) d it acc env)):=by
 unfold compTurn zB
 simp only [hg]
 cases h:gens[d+1]? with
 | none=>rfl
 | some g'=>
  obtain⟨t',i',f',a'⟩:=g'
  have e:a'=0:=hn _ h
  subst e
  rfl
def jV:List TT->TS->TS
 | [],tb=>tb
 | c :: r,tb=>fV c (jV r tb) aL
inductive PTs (X:Cx):List Expr->List TT->Prop
 | nil:PTs X [] []
 | cons {c:Expr} {cs:List Expr} {t:TT} {ts:List TT}:PT X c t->PTs X cs ts->PTs X (c :: cs) (t :: ts)
section
variable {X:Cx}
theorem aAL {cs:List Expr}{s:Shared}{Q:Bool->Shared->Prop}{E:Value->Shared->Prop}(h:Q false s) :
  wpAny (model X.prog X.w) X.A (forIn cs false fun c r=>if r=true then do let ok <- isTrue c X.env (eval c X.env);pure (ForInStep.yield ok) else pure (ForInStep.yield r)) Q E s:=by
 induction cs with
 | nil=>rw[jl];exact ak h
 | cons c cs ih=>
  rw[h7,if_neg br]
  exact ae (ak ih)
theorem aAd {tb:TS}{D:lO}{pins:List (Addr × Obj)}:∀ {cs:List Expr} {ts:List TT},PTs X cs ts->∀ {s:Shared} {σ:St} {H:Hp},Inv X pins σ H s->jV ts tb D σ H ->
  wpAny (model X.prog X.w) X.A (forIn cs true fun c r=>if r=true then do let ok <- isTrue c X.env (eval c X.env);pure (ForInStep.yield ok) else pure (ForInStep.yield r))
   (fun ok s'=>∃ H',Inv X pins σ H' s'/\if ok=true then tb D σ H' else D.nx σ H') X.xe s
 | _,_, .nil,s,σ,H,I,h=>by rw[jl];exact ak ⟨H,I,by rw[if_pos rfl];exact h⟩
 | _,_, .cons (cs:=cs) hc hr,s,σ,H,I,h=>by
  rw[h7,if_pos rfl]
  refine ae (ae (thn (hc pins s σ H _ I h) fun b s1 ⟨H1,I1,q1⟩=>ak ?_))
  cases b with
  | true=>
   rw[if_pos rfl] at q1
   exact aAd hr I1 q1
  | false=>
   rw[if_neg br] at q1
   exact aAL ⟨H1,I1,by rw[if_neg br];exact q1⟩
end
def PB (X:Cx) (elt:Expr) (gens:List Comprehension) (scope:Scope) (pos:Pos) (d:Nat) (acc:Addr) (t:TS):Prop:=
 ∀ (pins:List (Addr × Obj)) (s:Shared) (σ:St) (H:Hp) (D:lO) (k:Sem Fin) (Q:Fin->Shared->Prop) (E:Value->Shared->Prop),Inv X pins σ H s->t D σ H ->
  (∀ s' σ' H',Inv X pins σ' H' s'->D.nx σ' H'->wpAny (model X.prog X.w) X.A k Q E s')->wpAny (model X.prog X.w) X.A (zB elt gens scope pos d (.ref acc) X.env k) Q E s
def dI (te:TE) (acc:Addr):TS:=fun D σ H=>te σ H fun x H1=>∃ xs,H1 acc=some (.lst xs)/\xs.length<ba/\D.nx σ (upd H1 acc (.lst (xs++[x])))
section
variable {X:Cx}
theorem bS {elt:Expr}{gens:List Comprehension}{scope:Scope}{pos:Pos}{d:Nat}{acc:Addr}{te:TE}(hx:X.xe=fun _ _=>False)(he:PE X elt te)(hl:gens[d+1]?=none):PB X elt gens scope pos d acc (dI te acc):=by
 intro pins s σ H D k Q E I h hk
 unfold zB
 rw[hl]
 refine ae (ae (il (he pins s σ H _ I h) (fun v s1 ⟨x,H1,I1,r1,xs,ha,hz,q⟩=>?_) fun _ _ z=>by rw[hx] at z;exact z.elim))
 have hm:=kC (X:=X) pins s1 σ H1 (.ref acc) [x] (.ref acc) [v] (fun v H'=>v = .non/\D.nx σ H') I1 rfl (.cons r1 .nil) ⟨acc,xs,x,rfl,rfl,ha,hz,rfl,q⟩
 refine ae (il hm (fun _ s2 ⟨x2,H2,I2,r2,_,q2⟩=>ak (hk s2 σ H2 I2 q2)) fun _ _ z=>by rw[hx] at z;exact z.elim)
theorem zA {elt target iter:Expr}{ifs:List Expr}{gens:List Comprehension}{scope:Scope}{pos:Pos}{d:Nat}{acc it:Addr}{fp:List Addr}{tn:Nat->Heap->Prop}{J:It}{g:TG}{ts:List TT}{tb:TS}{D:lO}{pins:List (Addr × Obj)}{s:Shared}{σ:St}{H:Hp}
  (hx:X.xe=fun _ _=>False) (hc:X.calm=true) (hgd:gens[d]?=some ⟨target,iter,ifs,0⟩) (hn:∀ g',gens[d+1]?=some g'->g'.is_async=0)
  (hg:PG X target g) (hts:PTs X ifs ts) (hb:PB X elt gens scope pos d acc tb)
  (T:aGi X.prog X.w X.K target J fp it tn) (I:Inv X pins σ H s) (st:tn 0 s.heap) (hf:∀ b∈fp,FpOk X pins H b) (h:iO J g (jV ts tb) D σ H) :
  uq (model X.prog X.w) X.A (.compStart (.ListComp elt gens scope pos) d (.ref it) (.ref acc) X.env) (fun r s'=>∃ f,r = .ok f/\∃ σ' H',Inv X pins σ' H' s'/\D.nx σ' H') s:=by
 have stat:∀ {H':Hp},(∀ b∈fp,H' b=none)->∀ b∈fp,FpOk X pins H' b:=fun hn b hb=>⟨hn b hb,(hf b hb).2⟩
 obtain⟨W,⟨m0,w0⟩,turn⟩:=h
 have E0:∀ (e:Value) (s':Shared),X.xe e s'->notedBy (model X.prog X.w) X.A X.env (fun e s'=>∃ f,(Except.error e:vv) = .ok f/\∃ σ' H',Inv X pins σ' H' s'/\D.nx σ' H') e s':=fun e s' z=>by rw[hx] at z;exact z.elim
 have loop:uq (model X.prog X.w) X.A (.compLoop (.ListComp elt gens scope pos) d (.ref it) (.ref acc) X.env) (fun r s'=>∃ f,r = .ok f/\∃ σ' H',Inv X pins σ' H' s'/\D.nx σ' H') s:=by
  refine codeAny_loop rfl (fun n s'=>∃ i σ' H',Inv X pins σ' H' s'/\tn i s'.heap/\(∀ b∈fp,H' b=none)/\W i n σ' H') ?_ m0 ⟨0,σ,H,I,st,fun b hb=>(hf b hb).1,w0⟩
  rintro n s3 ⟨i,σ3,H3,I3,st3,fr3,w3⟩
  show wpAny _ X.A ((compTurn (.ListComp elt gens scope pos) d (.ref it) (.ref acc) X.env).onRaise (fun x=>do noteFrame x X.env;theTreesLotGoes x)) _ _ s3
  refine wpAny_noted ?_
  rw[aAy _ _ _ hgd hn]
  refine ae (qd (ae ?_))
  rcases turn i n σ3 H3 w3 with ⟨stop,qn⟩ | ⟨go,N,hN,step⟩
  ·refine il (T.done X rfl rfl rfl hc i pins s3 σ3 H3 (fun _ _=>False) I3 (stat fr3) st3 stop) (fun r s4 ⟨hr,I4⟩=>?_) (fun _ _ z=>z.elim)
   subst hr
   exact ak ⟨.next,rfl,σ3,H3,I4,qn⟩
  ·refine il (T.item X rfl rfl rfl hc i pins s3 σ3 H3 (fun _ _=>False) I3 (stat fr3) st3 go) (fun r s4 ⟨u,hr,h4⟩=>?_) (fun _ _ z=>z.elim)
   subst hr
   refine ae (il h4 (fun _ s5 ⟨x,H5,I5,r5,y5,st5,fr5⟩=>?_) (fun _ _ z=>z.elim))
   have I5':=I5.pinned (stat fr5) (T.obj _ _ st5)
   refine ae (il (hg _ s5 σ3 H5 x u _ I5' r5 (step x H5 y5)) (fun _ s6 ⟨σ6,H6,I6,q6⟩=>?_) E0)
   refine ae (il (aAd hts I6 q6) (fun ok s7 ⟨H7,I7,q7⟩=>?_) E0)
   have again:∀ {σ7:St} {H7:Hp} {s7:Shared},Inv X (pins++zO fp s5.heap) σ7 H7 s7->N σ7 H7->∃ m,m<n/\∃ i σ' H',Inv X pins σ' H' s7/\tn i s7.heap/\(∀ b∈fp,H' b=none)/\W i m σ' H':=fun {σ7 H7 s7} I7 n7=>by
    obtain⟨m',hm,w7⟩:=hN σ7 H7 n7
    refine ⟨m',hm,i+1,σ7,H7,I7.unpinned,T.keep _ _ _ st5 fun b hb o e=>(I7.pin (b,o) (ef _ (ef _ (kO hb e)))).1,fun b hb=>?_,w7⟩
    obtain⟨o,e,d⟩:=T.obj _ _ st5 b hb
    exact (I7.pin (b,o) (ef _ (ef _ (kO hb e)))).2.1
   cases ok with
   | false=>
    rw[if_neg br] at q7 ⊢
    exact ak ⟨rfl,again I7 q7⟩
   | true=>
    rw[if_pos rfl] at q7 ⊢
    exact hb _ s7 σ6 H7 _ _ _ _ I7 q7 fun s8 σ8 H8 I8 q8=>ak ⟨rfl,again I8 q8⟩
 refine vx ?_
 show wpAny _ _ ((compStart (.ListComp elt gens scope pos) d (.ref it) (.ref acc) X.env).onRaise (fun x=>do noteFrame x X.env;xj theWindowsPlace)) _ _ s
 refine wpAny_notedAt ?_
 have hcl:clausesOf (.ListComp elt gens scope pos)=gens:=rfl
 unfold compStart
 rw[hcl,hgd]
 show wpAny _ _ (ask >>= _) _ _ s
 refine ae (lg (wpAny_ite ?_))
 split
 ·first
   | exact ae (ak (ak (And.intro rfl loop)))
   | exact ak (And.intro rfl loop)
 ·refine ae (mj ?_)
  show wpAny _ _ (xj iter.pos >>= _) _ _ s
  exact ae (qd (ae (T.self X.A 0 s _ _ st (ak (And.intro rfl loop)))))
theorem aCG {elt target iter:Expr}{ifs:List Expr}{gens:List Comprehension}{scope:Scope}{pos:Pos}{d:Nat}{acc:Addr}{wi:TI}{g:TG}{ts:List TT}{tb:TS}
  (hx:X.xe=fun _ _=>False) (hc:X.calm=true) (hgd:gens[d+1]?=some ⟨target,iter,ifs,0⟩) (hn:∀ g',gens[d+2]?=some g'->g'.is_async=0)
  (hi:PI X target iter wi) (hg:PG X target g) (hts:PTs X ifs ts) (hb:PB X elt gens scope pos (d+1) acc tb) (hs:∀ x,mh iter X.env x=pure x:=by intro _;rfl) :
  PB X elt gens scope pos d acc (tK wi g (jV ts tb)):=by
 intro pins s σ H D k Q E I h hk
 unfold zB
 rw[hgd]
 have EX:∀ (e:Value) (s':Shared),X.xe e s'->E e s':=fun e s' z=>by rw[hx] at z;exact z.elim
 refine ae (il (hi pins s σ H (fun J H1=>iO J g (jV ts tb) D σ H1) I h) (fun v s1 h1=>?_) EX)
 refine ae (qd (ae (ur (hs v) (ae (ft (il h1 (fun itv s2 h2=>?_) EX))))))
 obtain⟨it,fp,tn,J,H2,e,I2,T,st2,f2,q2⟩:=h2
 subst e
 refine ae (wpAny_runOwn (j3 (zA hx hc hgd hn hg hts hb T I2 st2 f2 q2) fun r s3 ⟨f,hr,σ3,H3,I3,q3⟩=>?_))
 subst hr
 exact hk s3 σ3 H3 I3 q3
end
def gI (cells:List (Str × Addr)):List (Str × NameKind)->List (Str × Addr)->List (Str × Addr)
 | [],acc=>acc
 | (n,k) :: r,acc=>if k == .free then gI cells r ((n,(cells.lookup n).getD 0) :: acc) else gI cells r acc
theorem tO {scope:Scope}{env:Env}(h:∀ x∈scope.names,x.2 = .free->(env.cells.lookup x.1).isSome=true):closureFor scope env=pure (gI env.cells scope.names []):=by
 have go:∀ (names:List (Str × NameKind)) (acc:List (Str × Addr)),(∀ x∈names,x.2 = .free->(env.cells.lookup x.1).isSome=true) ->
   (forIn names acc fun x (r:List (Str × Addr))=>if x.2 == NameKind.free then (do let c <- cellOf env x.1;pure (ForInStep.yield ((x.1,c) :: r))) else pure (ForInStep.yield r):Sem (List (Str × Addr)))=pure (gI env.cells names acc):=by
  intro names
  induction names with
  | nil=>intro acc _;rw[jl];rfl
  | cons x r ih=>
   intro acc hh
   obtain⟨n,k⟩:=x
   rw[h7]
   unfold gI
   cases hk:k == NameKind.free with
   | false=>
    rw[if_neg br,if_neg br]
    exact ih acc fun y hy=>hh y (bu _ hy)
   | true=>
    rw[if_pos rfl,if_pos rfl]
    obtain⟨c,hc⟩:=gc.mp (hh (n,k) dh (by simpa using hk))
    have e:cellOf env n=pure c:=by
     unfold cellOf
     rw[show env.cells.lookup n=some c from hc]
    show (do let x <- (do let c <- cellOf env n;pure (ForInStep.yield ((n,c) :: acc)));_)=_
    rw[e]
    rw[show ((env.cells.lookup n).getD 0)=c by rw[show env.cells.lookup n=some c from hc];rfl]
    exact ih ((n,c) :: acc) fun y hy=>hh y (bu _ hy)
 have:=go scope.names [] h
 unfold closureFor
 refine Eq.trans ?_ (congrArg (fun m=>m >>= fun r=>pure r) this |>.trans rfl)
 rfl
theorem qX {cells:List (Str × Addr)}{x:Str}:∀ (names:List (Str × NameKind)) (acc:List (Str × Addr)),(x,NameKind.free)∉names->(gI cells names acc).lookup x=acc.lookup x
 | [],_,_=>rfl
 | (n,k) :: r,acc,h=>by
  unfold gI
  have hr:(x,NameKind.free)∉r:=fun z=>h (bu _ z)
  cases hk:k == NameKind.free with
  | false=>rw[if_neg br];exact qX r acc hr
  | true=>
   rw[if_pos rfl,qX r _ hr,gk]
   have e:k = .free:=by simpa using hk
   have ne:(x == n)=false:=by
    cases q:x == n with
    | false=>rfl
    | true=>exact absurd (by rw[beq_iff_eq.mp q,e];exact dh) h
   rw[ne]
theorem qQ {cells:List (Str × Addr)}{x:Str}{c:Addr}(hc:cells.lookup x=some c):∀ (names:List (Str × NameKind)) (acc:List (Str × Addr)),(x,NameKind.free)∈names->(gI cells names acc).lookup x=some c
 | [],_,h=>by simp at h
 | (n,k) :: r,acc,h=>by
  unfold gI
  by_cases hr:(x,NameKind.free)∈r
  ·cases hk:k == NameKind.free with
   | false=>rw[if_neg br];exact qQ hc r acc hr
   | true=>rw[if_pos rfl];exact qQ hc r _ hr
  ·rcases dk.mp h with e | e
   ·cases e
    rw[if_pos (by decide),qX r _ hr,gk]
    simp [hc]
   ·exact absurd e hr
theorem oP {cells:List (Str × Addr)}{x:Str}{c:Addr}:∀ (names:List (Str × NameKind)) (acc:List (Str × Addr)),(∀ y∈names,y.2 = .free->(cells.lookup y.1).isSome=true)->(x,c)∈gI cells names acc ->
  (x,c)∈acc\/((x,NameKind.free)∈names/\cells.lookup x=some c)
 | [],_,_,h => .inl h
 | (n,k) :: r,acc,hh,h=>by
  unfold gI at h
  have hr:∀ y∈r,y.2 = .free->(cells.lookup y.1).isSome=true:=fun y hy=>hh y (bu _ hy)
  cases hk:k == NameKind.free with
  | false=>
   rw[hk,if_neg br] at h
   exact (oP r acc hr h).imp id fun z=>⟨bu _ z.1,z.2⟩
  | true=>
   rw[hk,if_pos rfl] at h
   have ek:k = .free:=by simpa using hk
   rcases oP r _ hr h with z | z
   ·rcases dk.mp z with z | z
    ·cases z
     obtain⟨d,hd⟩:=gc.mp (hh (x,k) dh ek)
     exact .inr ⟨by rw[ek];exact dh,by rw[hd];rfl⟩
    ·exact .inl z
   ·exact .inr ⟨bu _ z.1,z.2⟩
theorem lT {cells:List (Str × Addr)}(inj:∀ x y c,cells.lookup x=some c->cells.lookup y=some c->x=y):∀ (names:List (Str × NameKind)) (acc:List (Str × Addr)),(names.map (·.1)).Nodup ->
  (∀ y∈names,y.2 = .free->(cells.lookup y.1).isSome=true)->(∀ p∈acc,cells.lookup p.1=some p.2/\p.1∉names.map (·.1))->(acc.Pairwise fun x y=>x.2≠y.2)->(gI cells names acc).Pairwise fun x y=>x.2≠y.2
 | [],_,_,_,_,h=>h
 | (n,k) :: r,acc,nd,hh,ha,h=>by
  unfold gI
  have hr:∀ y∈r,y.2 = .free->(cells.lookup y.1).isSome=true:=fun y hy=>hh y (bu _ hy)
  obtain⟨n1,n2⟩:=i9.mp nd
  cases hk:k == NameKind.free with
  | false=>
   rw[if_neg br]
   exact lT inj r acc n2 hr (fun p hp=>⟨(ha p hp).1,fun z=>(ha p hp).2 (bu _ z)⟩) h
  | true=>
   rw[if_pos rfl]
   have ek:k = .free:=by simpa using hk
   obtain⟨d,hd⟩:=gc.mp (hh (n,k) dh ek)
   have hd':cells.lookup n=some d:=hd
   refine lT inj r _ n2 hr (fun p hp=>?_) (rq.mpr ⟨fun p hp e=>?_,h⟩)
   ·rcases dk.mp hp with e | hp
    ·subst e;exact ⟨by rw[hd'];rfl,n1⟩
    ·exact ⟨(ha p hp).1,fun z=>(ha p hp).2 (bu _ z)⟩
   ·rw[hd'] at e
    have e':d=p.2:=e
    have:n=p.1:=inj n p.1 d hd' (by rw[e'];exact (ha p hp).1)
    exact (ha p hp).2 (by rw[<- this];exact dh)
theorem iB {x:Str}{c:Addr}:∀ (names:List (Str × NameKind)) (n:Nat) (acc:List (Str × Addr)),(x,c)∈ji n names acc->(n<=c/\(x,NameKind.cell)∈names)\/(x,c)∈acc
 | [],_,_,h => .inr h
 | (y,k) :: r,n,acc,h=>by
  unfold ji at h
  cases hk:k == NameKind.cell with
  | false=>
   rw[hk,if_neg br] at h
   exact (iB r n acc h).imp (fun z=>⟨z.1,bu _ z.2⟩) id
  | true=>
   rw[hk,if_pos rfl] at h
   have ek:k = .cell:=by simpa using hk
   rcases iB r (n+1) _ h with z | z
   ·exact .inl ⟨by omega,bu _ z.2⟩
   ·rcases dk.mp z with z | z
    ·cases z
     exact .inl ⟨bg _,by rw[ek];exact dh⟩
    ·exact .inr z
theorem gJ:∀ (names:List (Str × NameKind)) (n:Nat) (acc:List (Str × Addr)),(∀ p∈acc,p.2<n)->(acc.Pairwise fun x y=>x.2≠y.2)->(ji n names acc).Pairwise fun x y=>x.2≠y.2
 | [],_,_,_,h=>h
 | (y,k) :: r,n,acc,hl,h=>by
  unfold ji
  cases hk:k == NameKind.cell with
  | false=>rw[if_neg br];exact gJ r n acc hl h
  | true=>
   rw[if_pos rfl]
   refine gJ r (n+1) _ (fun p hp=>?_) (rq.mpr ⟨fun p hp e=>?_,h⟩)
   ·rcases dk.mp hp with e | hp
    ·subst e;exact jv _
    ·exact gw (hl p hp)
   ·have e':n=p.2:=e
    exact jz _ (e' ▸ hl p hp)
theorem iT {x:Str}:∀ (names:List (Str × NameKind)) (n:Nat) (acc:List (Str × Addr)),(x,NameKind.cell)∉names->(ji n names acc).lookup x=acc.lookup x
 | [],_,_,_=>rfl
 | (y,k) :: r,n,acc,h=>by
  unfold ji
  have hr:(x,NameKind.cell)∉r:=fun z=>h (bu _ z)
  cases hk:k == NameKind.cell with
  | false=>rw[if_neg br];exact iT r n acc hr
  | true=>
   rw[if_pos rfl,iT r _ _ hr,gk]
   have e:k = .cell:=by simpa using hk
   have ne:(x == y)=false:=by
    cases q:x == y with
    | false=>rfl
    | true=>exact absurd (by rw[beq_iff_eq.mp q,e];exact dh) h
   rw[ne]
theorem gK {x:Str}{c:Addr}:∀ (names:List (Str × NameKind)) (h:Heap) (acc:List (Str × Addr)),(x,c)∈ji h.objs.size names acc->(x,c)∈acc\/(zg h names).IsCell c none
 | [],_,_,hm => .inl hm
 | (y,k) :: r,h,acc,hm=>by
  unfold ji at hm
  unfold zg
  cases hk:k == NameKind.cell with
  | false=>
   rw[hk,if_neg br] at hm
   rw[if_neg br]
   exact gK r h acc hm
  | true=>
   rw[hk,if_pos rfl] at hm
   rw[if_pos rfl]
   have:=gK (x:=x) (c:=c) r (h.push { cls := .type "cell",data := .cell none }) ((y,h.objs.size) :: acc) (by rw[fv];exact hm)
   rcases this with z | z
   ·rcases dk.mp z with z | z
    ·cases z
     exact .inr ⟨_,vy r _ _ _ (bh _ rfl),rfl⟩
    ·exact .inl z
   ·exact .inr z
theorem eP {x:Str}{k:NameKind}:∀ {names:List (Str × NameKind)},(names.map (·.1)).Nodup->(x,k)∈names->names.lookup x=some k
 | [],_,h=>by simp at h
 | (y,j) :: r,nd,h=>by
  obtain⟨n1,n2⟩:=i9.mp nd
  rw[gk]
  rcases dk.mp h with e | e
  ·cases e;simp
  ·have ne:(x == y)=false:=by
    cases q:x == y with
    | false=>rfl
    | true=>exact absurd (fh.mpr ⟨(x,k),e,beq_iff_eq.mp q⟩) n1
   rw[ne]
   exact eP n2 e
theorem mJ {scope:Scope}{env:Env}{x:Str}{k:NameKind}:(yk scope env).names.lookup x=some k->(k = .cell\/k = .free)->scope.names.lookup x=some .cell\/scope.names.lookup x=some .free:=by
 unfold yk
 show (scope.names.map _).lookup x=some k->_
 induction scope.names with
 | nil=>intro h;simp at h
 | cons p r ih=>
  obtain⟨n,j⟩:=p
  intro h hk
  rw[d3] at h
  rw[gk]
  by_cases hc:(j == NameKind.free && env.scope.kind == .function && env.kindOf n == some .cell)=true
  ·simp only [hc,if_true] at h
   rw[gk] at h
   cases q:x == n with
   | true=>
    have:j = .free:=by
     have:=(p6.mp (p6.mp hc).1).1
     simpa using this
    simp [this]
   | false=>rw[q] at h;simpa using ih h hk
  ·simp only [hc,e7,if_false] at h
   rw[gk] at h
   cases q:x == n with
   | true=>
    rw[q] at h
    simp only [Option.some.injEq] at h
    subst h
    rcases hk with e | e <;> simp [e]
   | false=>rw[q] at h;simpa using ih h hk
theorem yG {scope:Scope}{env:Env}{x:Str}(hf:env.scope.kind = .function):scope.names.lookup x=some .free->(yk scope env).names.lookup x=some .cell\/(yk scope env).names.lookup x=some .free:=by
 unfold yk
 show _->(scope.names.map _).lookup x=_\/(scope.names.map _).lookup x=_
 induction scope.names with
 | nil=>intro h;simp at h
 | cons p r ih=>
  obtain⟨n,j⟩:=p
  intro h
  rw[gk] at h
  rw[d3]
  cases q:x == n with
  | true=>
   rw[q] at h
   simp only [Option.some.injEq] at h
   subst h
   by_cases hc:(NameKind.free == NameKind.free && env.scope.kind == .function && env.kindOf n == some .cell)=true
   ·left;simp only [hc,if_true];rw[gk,q]
   ·right;simp only [hc,e7,if_false];rw[gk,q]
  | false=>
   rw[q] at h
   by_cases hc:(j == NameKind.free && env.scope.kind == .function && env.kindOf n == some .cell)=true
   ·simp only [hc,if_true];rw[gk,q];exact ih h
   ·simp only [hc,e7,if_false];rw[gk,q];exact ih h
def gU (X:Cx) (N:List Str) (scope:Scope) (s:Shared) (H:Hp) (fp:List Addr):Cx where
 prog:=X.prog
 w:=X.w
 K:=X.K
 mg:=X.mg
 base:=X.base
 A:=X.A
 N:=N
 s₀:=s
 H₀:=H
 env:=compEnvC scope (ji (s.heap.objs.size+1) scope.names (gI X.env.cells scope.names [])) s.heap.objs.size X.env
 outer:=X.stack
 stack:=X.stack
 ex:=fp
 fn:=fun x=>scope.names.lookup x == some .cell
 calm:=X.calm
 pn:=[]
 xe:=fun _ _=>False
def aJL (σ:St):Option Nat->Option V
 | none=>none
 | some j=>(σ[j]?).join
def nU (N:List Str) (names encl:List (Str × NameKind)) (N':List Str) (ix:List (Option Nat)):Bool:=
 decide ((names.map (·.1)).Nodup) && names.all (fun p=>!(p.2 == NameKind.free) || (encl.lookup p.1 == some NameKind.cell || encl.lookup p.1 == some NameKind.free)) && ix.length == N'.length &&
  ((N'.zip ix).all fun p=>match p.2 with
   | none=>true
   | some j=>N[j]? == some p.1 && names.lookup p.1 == some NameKind.free)
def dO (ix:List (Option Nat)) (wi:TI) (g:TG) (ts:List TT) (tb:Addr->TS):TE:=fun σ H Q=>wi σ H fun J H1=>∀ acc,H1 acc=none ->
 iO J g (jV ts (tb acc)) { nx:=fun _ H'=>Q (.ref acc) H',rt:=fun _ _=>False } (ix.map (aJL σ)) (upd H1 acc (.lst []))
section
variable {X:Cx}{elt target iter:Expr}{ifs:List Expr}{rest:List Comprehension}{scope:Scope}{pos:Pos}{N':List Str}{ix:List (Option Nat)}{wi:TI}{g:TG}{ts:List TT}{tb:Addr->TS}
theorem aCe {pins:List (Addr × Obj)}{σ:St}{H:Hp}{s:Shared}{fp:List Addr}{Q:Env->Shared->Prop}{E:Value->Shared->Prop}(I:Inv X pins σ H s)(hok:nU X.N scope.names X.env.scope.names N' ix=true)(hk:scope.kind = .function)
  (hf:∀ b∈fp,FpOk X pins H b) (hfo:∀ b∈fp,∃ o,s.heap.get? b=some o)
  (h:∀ s',(∀ b o,s.heap.get? b=some o->s'.heap.get? b=some o)->Inv (gU X N' scope s H fp) [] (ix.map (aJL σ)) H s'->Q (newEnv scope s.heap.objs.size X.env.globals (ji (s.heap.objs.size+1) scope.names (gI X.env.cells scope.names [])) X.env.qual none .none (some X.env) yg) s') :
  wpAny (model X.prog X.w) X.A (xb scope X.env.globals (gI X.env.cells scope.names []) [] X.env.qual none .none (some X.env)) Q E s:=by
 have hok2:=hok
 simp only [nU,du,decide_eq_true_eq,e9] at hok
 obtain⟨⟨⟨nd,hfr⟩,hlen⟩,hix⟩:=hok
 have hlen:ix.length=N'.length:=by simpa using hlen
 have isF:∀ y∈scope.names,y.2 = .free->X.env.kindOf y.1=some .cell\/X.env.kindOf y.1=some .free:=fun y hy e=>by
  have:=hfr y hy
  have:X.env.scope.names.lookup y.1=some .cell\/X.env.scope.names.lookup y.1=some .free:=by simpa [e] using this
  exact this
 have hasC:∀ y∈scope.names,y.2 = .free->(X.env.cells.lookup y.1).isSome=true:=fun y hy e=>by
  obtain⟨c,hc⟩:=I.ok.has y.1 (isF y hy e)
  rw[hc];rfl
 have oldC:∀ x c,(x,c)∈gI X.env.cells scope.names []->(x,NameKind.free)∈scope.names/\X.env.cells.lookup x=some c:=fun x c hm=>(oP _ _ hasC hm).resolve_left (by simp)
 have ltC:∀ x c,X.env.cells.lookup x=some c->c<s.heap.objs.size:=fun x c e=>by obtain⟨v,q⟩:=I.cell x c e;exact q.lt
 have apart:(ji (s.heap.objs.size+1) scope.names (gI X.env.cells scope.names [])).Pairwise fun x y=>x.2≠y.2:=
  gJ _ _ _ (fun p hp=>gw (ltC p.1 p.2 (oldC p.1 p.2 hp).2)) (lT I.ok.inj _ _ nd hasC (by simp) List.Pairwise.nil)
 have fromC:∀ x c,(ji (s.heap.objs.size+1) scope.names (gI X.env.cells scope.names [])).lookup x=some c->(s.heap.objs.size+1<=c/\(x,NameKind.cell)∈scope.names)\/((x,NameKind.free)∈scope.names/\X.env.cells.lookup x=some c):=fun x c e=>
  (iB _ _ _ (fu e)).imp id fun z=>oldC x c z
 have sz1:(s.heap.push { cls := .type "dict",data := .dict #[] }).objs.size=s.heap.objs.size+1:=fv ..
 simp only [xb,Option.isSome_some,if_true]
 refine ae (wpAny_alloc ?_)
 refine ae (wpAny_layCells _ (fun name kind cells=>by cases hkc:kind == NameKind.cell <;> simp [hkc]) _ _ _ _ ?_)
 rw[show ({ s with heap:=s.heap.push { cls := .type "dict",data := .dict #[] } }:Shared).heap.objs.size=s.heap.objs.size+1 from sz1]
 refine ae ?_
 rw[jl]
 refine ak (ak ?_)
 have keep:∀ b o,s.heap.get? b=some o->(zg (s.heap.push { cls := .type "dict",data := .dict #[] }) scope.names).get? b=some o:=fun b o e=>vy _ _ b o (aj _ e)
 refine h _ keep ?_
 have kk:∀ x:Str,(gU X N' scope s H fp).env.kindOf x=(yk scope X.env).names.lookup x:=fun _=>rfl
 have emptyC:∀ x c,(ji (s.heap.objs.size+1) scope.names (gI X.env.cells scope.names [])).lookup x=some c->∃ v,(zg (s.heap.push { cls := .type "dict",data := .dict #[] }) scope.names).IsCell c v:=fun x c e=>by
  have:=gK (x:=x) (c:=c) scope.names (s.heap.push { cls := .type "dict",data := .dict #[] }) (gI X.env.cells scope.names []) (by rw[sz1];exact fu e)
  rcases this with z | z
  ·obtain⟨v,q⟩:=I.cell x c (oldC x c z).2
   exact ⟨v,q.keeps keep⟩
  ·exact ⟨none,z⟩
 refine ⟨⟨I.ok.mod,hk,I.ok.glob,I.ok.blt,bg _,fun y z c h1 h2=>?_,fun y hy=>?_,fun y c hy e=>?_,I.ok.hd,I.ok.frames, .inl rfl,fun b hb=>⟨?_,fun x c e=>?_⟩,I.bs,dg I.ok.bsz I.sz,fun b o e hb=>?_,fun b hb hs=>?_,I.stack,I.stkFree⟩,
  rfl,I.bare,Un.kept keep,⟨fun _=>none,(Heap.Ns.new s.heap (.type "dict")).keeps (vy _ _),fun i x v e1 e2 e3=>?_⟩,emptyC,I.hok.fresh (bg _),fun y c e=>?_,fun p hp=>absurd (show p∈([]:List (Addr × Obj)) from hp) (by simp),I.hok.kept keep,by rw[af];exact hlen⟩
 ·exact name_of_addr apart (fu h1) (fu h2)
 ·rw[kk] at hy
  have hy':scope.names.lookup y=some .cell\/scope.names.lookup y=some .free:=by
   rcases hy with q | q
   ·exact mJ q (.inl rfl)
   ·exact mJ q (.inr rfl)
  refine gc.mp (og _ _ _ ?_)
  rcases hy' with q | q
  ·exact .inl q
  ·have hm:=fu q
   obtain⟨c,hc⟩:=gc.mp (hasC _ hm rfl)
   exact .inr (by rw[qQ hc _ _ hm];rfl)
 ·have hy:scope.names.lookup y=some .cell:=by simpa using (show (scope.names.lookup y == some NameKind.cell)=true from hy)
  rcases fromC y c e with z | z
  ·exact uc z.1
  ·have:=eP nd z.1
   rw[hy] at this;cases this
 ·obtain⟨o,ho⟩:=hfo b hb
  exact di (bo ho)
 ·rcases fromC x c e with z | z
  ·obtain⟨o,ho⟩:=hfo b hb
   exact jk (aw (bo ho) (uc z.1))
  ·exact (hf b hb).2.2.2.2.1 x c z.2
 ·rcases (hf b hb).2.2.2.1 with z | z
  ·exact I.ok.noex b o e z
  ·exact absurd (aw (bo (I.ok.bs b o e).1) z) (jz _)
 ·rcases dk.mp (I.stkSub b hs) with z | z
  ·exact (hf b hb).2.1 z
  ·exact (hf b hb).2.2.1 z
 ·rw[cf] at e2
  cases hj:ix[i]? with
  | none=>rw[hj] at e2;cases e2
  | some oj=>
   rw[hj] at e2
   have e2:aJL σ oj=some v:=by simpa using e2
   cases oj with
   | none=>cases e2
   | some j=>
    have hv:σ[j]?=some (some v):=by
     have e2':(σ[j]?).join=some v:=e2
     cases q:σ[j]? with
     | none=>rw[q] at e2';cases e2'
     | some w=>rw[q] at e2';have:w=some v:=e2';rw[this]
    have hz:(x,some j)∈N'.zip ix:=by
     refine bt (i:=i) ?_
     rw[List.getElem?_zip_eq_some]
     exact ⟨e1,hj⟩
    have:=hix _ hz
    simp only [du,beq_iff_eq] at this
    obtain⟨n1,n2⟩:=this
    have hm:=fu n2
    obtain⟨m,hn,hl⟩:=I.loc
    have kf:=isF (x, .free) hm rfl
    have vis:Vis X.env.scope x:=by
     rcases kf with q | q
     ·exact .inr (.inl q)
     ·exact .inr (.inr q)
    obtain⟨u,r,l⟩:=hl j x v n1 hv vis
    refine ⟨u,r, .inr ?_⟩
    rcases l with ⟨k1,_⟩ | ⟨_,c,hc,hcell⟩
    ·rcases kf with q | q <;> (rw[show X.env.kindOf x=some NameKind.local from k1] at q;cases q)
    ·refine ⟨?_,c,?_,hcell.keeps keep⟩
     ·rw[kk];exact yG I.ok.kind n2
     ·show (ji _ _ _).lookup x=some c
      rw[iT,qQ hc _ _ hm]
      intro z
      have:=eP nd z
      rw[n2] at this;cases this
 ·rcases fromC y c e with z | z
  ·exact I.hok.fresh (uc z.1)
  ·exact I.freeC y c z.2
theorem uY {pins:List (Addr × Obj)}{σ:St}{H:Hp}{s:Shared}{it:Addr}{fp:List Addr}{tn:Nat->Heap->Prop}{J:It}{RR:Value->Addr->vv->Shared->Prop}{E:Value->Shared->Prop}{D:Addr->lO}
  (hc:X.calm=true) (hok:nU X.N scope.names X.env.scope.names N' ix=true) (hk:scope.kind = .function) (hn:∀ g',rest[0]?=some g'->g'.is_async=0)
  (hg:∀ s H fp,PG (gU X N' scope s H fp) target g) (hts:∀ s H fp,PTs (gU X N' scope s H fp) ifs ts)
  (hb:∀ s H fp acc,PB (gU X N' scope s H fp) elt (⟨target,iter,ifs,0⟩ :: rest) scope pos 0 acc (tb acc))
  (I:Inv X pins σ H s) (T:aGi X.prog X.w X.K target J fp it tn) (st:tn 0 s.heap) (hf:∀ b∈fp,FpOk X pins H b)
  (h:∀ acc,H acc=none->iO J g (jV ts (tb acc)) (D acc) (ix.map (aJL σ)) (upd H acc (.lst [])))
  (hR:∀ acc C s' H' σ',H acc=none->s.heap.objs.size<=C->Inv X pins σ H' s'->FpOk X pins H' C->(∃ m,s'.heap.Ns C m)->(D acc).nx σ' H'->RR (.ref acc) C (.ok .next) s') :
  wpAny (model X.prog X.w) X.A (newList []) (fun acc s₃=>wpAny (model X.prog X.w) X.A (xb scope X.env.globals (gI X.env.cells scope.names []) [] X.env.qual none .none (some X.env)) (fun cenv s₄=>
   uq (model X.prog X.w) X.A (.compStart (.ListComp elt (⟨target,iter,ifs,0⟩ :: rest) scope pos) 0 (.ref it) acc { cenv with scope:=yk scope X.env }) (fun r s'=>∃ f,r = .ok f/\RR acc cenv.locals (.ok .next) s') s₄) E s₃) E s:=by
 refine gq ?_
 have hnone:H s.heap.objs.size=none:=I.hok.fresh (bg _)
 have I3:Inv X pins σ (upd H s.heap.objs.size (.lst [])) { s with heap:=s.heap.push { cls := .type "list",data := .seq ([]:List Value).toArray } }:=
  I.laid (t':=s.toks) (fun b u e=>aj _ e) (bg _) ⟨ay _,[],0, .nil,bh _ rfl⟩
 have hlt:∀ b∈fp,b<s.heap.objs.size:=fun b hb=>by obtain⟨o,ho,_⟩:=T.obj 0 _ st b hb;exact bo ho
 have hf3:∀ b∈fp,FpOk X pins (upd H s.heap.objs.size (.lst [])) b:=fun b hb=>⟨by rw[bA (di (hlt b hb))];exact (hf b hb).1,(hf b hb).2⟩
 refine aCe (fp:=fp) I3 hok hk hf3 (fun b hb=>?_) fun s4 keep I4=>?_
 ·obtain⟨o,ho,_⟩:=T.obj 0 _ st b hb
  exact ⟨o,aj _ ho⟩
 have st4:tn 0 s4.heap:=T.keep 0 _ _ st fun b hb o e=>keep b o (aj _ e)
 have size3:({ s with heap:=s.heap.push { cls := .type "list",data := .seq ([]:List Value).toArray } }:Shared).heap.objs.size=s.heap.objs.size+1:=fv ..
 have hf4:∀ b∈fp,FpOk (gU X N' scope { s with heap:=s.heap.push { cls := .type "list",data := .seq ([]:List Value).toArray } } (upd H s.heap.objs.size (.lst [])) fp) [] (upd H s.heap.objs.size (.lst [])) b:=fun b hb=>
  ⟨(hf3 b hb).1,(I4.ok.exf b hb).1,I4.ok.exfs b hb, .inl hb,(I4.ok.exf b hb).2,fun p hp=>absurd (show p∈([]:List (Addr × Obj)) from hp) (by simp)⟩
 refine j3 (zA (X:=gU X N' scope { s with heap:=s.heap.push { cls := .type "list",data := .seq ([]:List Value).toArray } } (upd H s.heap.objs.size (.lst [])) fp) rfl hc (d:=0) (gens:=⟨target,iter,ifs,0⟩ :: rest) rfl hn (hg _ _ _) (hts _ _ _) (hb _ _ _ _) T I4 st4 hf4 (h _ hnone)) fun r s5 ⟨f,hr,σ5,H5,I5,q5⟩=>⟨f,hr,?_⟩
 have I6:Inv X pins σ H5 s5:=I3.call' (ch:=fp) (I5.os.trans rfl) I5.base I5.hok I5.bare fun b hb=>⟨(hf3 b hb).2.2.2.1,(hf3 b hb).2.1,(hf3 b hb).2.2.2.2.1,(hf3 b hb).2.2.2.2.2⟩
 have hC:s.heap.objs.size<=(gU X N' scope { s with heap:=s.heap.push { cls := .type "list",data := .seq ([]:List Value).toArray } } (upd H s.heap.objs.size (.lst [])) fp).env.locals:=by
  show s.heap.objs.size<=_
  exact dg (uu _) (Nat.le_of_eq size3.symm)
 refine hR _ _ s5 H5 σ5 hnone hC I6 (I3.fpOk (bg _) I5.free) ?_ q5
 obtain⟨m,hm,_⟩:=I5.loc
 exact ⟨m,hm⟩
theorem oV (hok:nU X.N scope.names X.env.scope.names N' ix=true):∀ x∈scope.names,x.2 = .local->scope.names.lookup x.1=some .local:=by
 simp only [nU,du,decide_eq_true_eq,e9] at hok
 intro x hx e
 obtain⟨n,k⟩:=x
 have e:k = .local:=e
 subst e
 exact eP hok.1.1.1 hx
theorem sI {pins:List (Addr × Obj)}{σ:St}{H:Hp}{s:Shared}(I:Inv X pins σ H s)(hok:nU X.N scope.names X.env.scope.names N' ix=true):closureFor scope X.env=pure (gI X.env.cells scope.names []):=by
 refine tO fun y hy e=>?_
 simp only [nU,du,decide_eq_true_eq,e9] at hok
 have:=hok.1.1.2 y hy
 have:X.env.scope.names.lookup y.1=some .cell\/X.env.scope.names.lookup y.1=some .free:=by simpa [e] using this
 obtain⟨c,hc⟩:=I.ok.has y.1 this
 rw[hc];rfl
theorem cK (hok:nU X.N scope.names X.env.scope.names N' ix=true)(hk:scope.kind = .function)(hc:X.calm=true)(hi:PI X target iter wi)
  (hg:∀ s H fp,PG (gU X N' scope s H fp) target g) (hts:∀ s H fp,PTs (gU X N' scope s H fp) ifs ts)
  (hb:∀ s H fp acc,PB (gU X N' scope s H fp) elt (⟨target,iter,ifs,0⟩ :: rest) scope pos 0 acc (tb acc))
  (hn:∀ g',rest[0]?=some g'->g'.is_async=0:=by intro _ h;first | cases h;rfl | cases h) (hs:∀ x,mh iter X.env x=pure x:=by intro _;rfl) :
  PE X (.ListComp elt (⟨target,iter,ifs,0⟩ :: rest) scope pos) (dO ix wi g ts tb):=by
 intro pins s σ H Q I h
 rw[eval_ListComp]
 refine ud (use:=none) rfl hs (sI I hok) hk (oV hok) (thn (hi pins s σ H _ I h) fun xv s₁ h₁=>thn h₁ fun itv s₂ h₂=>?_)
 obtain⟨it,fp,tn,J,H2,e,I2,T,st2,f2,q2⟩:=h₂
 subst e
 refine thn (uY (RR:=fun acc C r s'=>compPost (model X.prog X.w) X.A X.xe none (EP X pins σ Q) acc C r s') hc hok hk hn hg hts hb I2 T st2 f2 q2 fun acc C s' H' σ' ha hC I' fC hns q=>?_) fun acc s3 h3=>thn h3 fun cenv s4 h4=>j3 h4 fun r s5 ⟨f,hr,h5⟩=>?_
 ·obtain⟨m,hm⟩:=hns
  refine ⟨m,hm,fun h' hs'=>⟨.ref acc,H',I'.turned (t':=s'.toks) (fun b o hb e=>(hs'.2 b hb).trans e) fC.1 fC.2.1 fC.2.2.2.1 fC.2.2.2.2.1 fC.2.2.2.2.2,rfl,q⟩⟩
 ·subst hr
  exact h5
theorem fK {i:Nat}{x:Str}{pos' spos:Pos}(hN:X.N.Nodup)(hix:X.N[i]?=some x)(hx:Loc X.env.scope x)(hok:nU X.N scope.names X.env.scope.names N' ix=true)(hk:scope.kind = .function)(hc:X.calm=true)(hi:PI X target iter wi)
  (hg:∀ s H fp,PG (gU X N' scope s H fp) target g) (hts:∀ s H fp,PTs (gU X N' scope s H fp) ifs ts)
  (hb:∀ s H fp acc,PB (gU X N' scope s H fp) elt (⟨target,iter,ifs,0⟩ :: rest) scope pos 0 acc (tb acc))
  (hsw:swapsWith (.ListComp elt (⟨target,iter,ifs,0⟩ :: rest) scope pos) (some (.Name x pos')) spos.line X.env=pure true:=by rfl)
  (hf:X.fn x=true\/X.env.scope.names.lookup x=some .local:=by first | exact .inl rfl | exact .inr rfl | assumption)
  (hn:∀ g',rest[0]?=some g'->g'.is_async=0:=by intro _ h;first | cases h;rfl | cases h) (hs:∀ x,mh iter X.env x=pure x:=by intro _;rfl) :
  PS X (.Assign [.Name x pos'] (.ListComp elt (⟨target,iter,ifs,0⟩ :: rest) scope pos) spos) (bW (dO ix wi g ts tb) (aK i)):=by
 intro pins s σ H D I h
 rw[exec_Assign_Name_used _ _ _ _ hsw]
 refine ae (qd (ae ?_))
 show wpAny _ X.A (do let _ <- comprehension (.ListComp elt (⟨target,iter,ifs,0⟩ :: rest) scope pos) scope X.env _ (newList []) false (eval iter X.env) (some (yo (.Name x pos') X.env))) _ _ s
 refine ae (il (ud (use:=some (yo (.Name x pos') X.env)) (Q:=fun _ s'=>SP X pins D .next s') rfl hs (sI I hok) hk (oV hok) (thn (hi pins s σ H _ I h) fun xv s₁ h₁=>thn h₁ fun itv s₂ h₂=>?_)) (fun _ s' hq=>ak (ak hq)) fun _ _ e=>e)
 obtain⟨it,fp,tn,J,H2,e,I2,T,st2,f2,q2⟩:=h₂
 subst e
 refine thn (uY (RR:=fun acc C r s'=>compPost (model X.prog X.w) X.A X.xe (some (yo (.Name x pos') X.env)) (fun _ s'=>SP X pins D .next s') acc C r s') hc hok hk hn hg hts hb I2 T st2 f2 q2 fun acc C s' H' σ' ha hC I' fC hns q=>?_) fun acc s3 h3=>thn h3 fun cenv s4 h4=>j3 h4 fun r s5 ⟨f,hr,h5⟩=>?_
 ·obtain⟨m,hm⟩:=hns
  show wpAny _ X.A (yo (.Name x pos') X.env (.ref acc)) _ _ _
  refine wpAny_assign_Name (yZ I' hN hix hx (v := .ref acc) rfl (fun s6 I6 ⟨a,hsb,ha6⟩=>?_) hf)
  have hCa:C≠a:=by
   rcases ha6 with z | z
   ·rw[z];exact fC.2.1
   ·exact (fC.2.2.2.2.1 x a z).symm
  refine ⟨m,hm.sameBut hsb hCa,fun h' hs'=>⟨_,H',I6.turned (t':=s6.toks) (fun b o hb e=>(hs'.2 b hb).trans e) fC.1 fC.2.1 fC.2.2.2.1 fC.2.2.2.2.1 fC.2.2.2.2.2,q⟩⟩
 ·subst hr
  exact h5
end
theorem Same.tup {K:aa}{H H':Hp}{a:Addr}{xs:List V}(e:Same H H')(h:SqT K H a xs):SqT K H' a xs:=by
 rcases h with (h | ⟨o,h⟩) | h
 ·exact .inl (.inl (e _ _ h))
 ·exact .inl (.inr ⟨o,e _ _ h⟩)
 ·exact .inr h
inductive Dt where
 | non | bl (b:Bool) | int (i:Int) | str (x:Str) | tup (ds:List Dt) | lst (ds:List Dt)
mutual
def Sh (K:aa) (H:Hp):Dt->V->Prop
 | .non,v=>v = .non
 | .bl b,v=>v = .bl b
 | .int i,v=>v = .int i
 | .str x,v=>v = .str x
 | .tup ds,v=>∃ a xs,v = .ref a/\SqT K H a xs/\ShL K H ds xs
 | .lst ds,v=>∃ a xs,v = .ref a/\SqL K H a xs/\ShL K H ds xs
def ShL (K:aa) (H:Hp):List Dt->List V->Prop
 | [],xs=>xs=[]
 | d :: ds,xs=>∃ x r,xs=x :: r/\Sh K H d x/\ShL K H ds r
end
mutual
def eqD:Dt->Dt->Bool
 | .non, .non=>true
 | .bl a, .bl b=>a == b
 | .int a, .int b=>a == b
 | .str a, .str b=>a == b
 | .bl a, .int b=>(if a then 1 else 0) == b
 | .int a, .bl b=>a == (if b then 1 else 0)
 | .tup ds, .tup es=>eqL ds es
 | .lst ds, .lst es=>eqL ds es
 | _,_=>false
def eqL:List Dt->List Dt->Bool
 | [],[]=>true
 | d :: ds,e :: es=>eqD d e && eqL ds es
 | _,_=>false
end
mutual
def dep:Dt->Nat
 | .tup ds=>aAe ds+1
 | .lst ds=>aAe ds+1
 | _=>0
def aAe:List Dt->Nat
 | []=>0
 | d :: ds=>max (dep d) (aAe ds)
end
section
variable {K:aa}{H H':Hp}
mutual
theorem Sh.same (e:Same H H'):∀ {d:Dt} {v:V},Sh K H d v->Sh K H' d v
 | .non,_,h=>h
 | .bl _,_,h=>h
 | .int _,_,h=>h
 | .str _,_,h=>h
 | .tup ds,_,⟨a,xs,h1,h2,h3⟩=>⟨a,xs,h1,e.tup h2,ShL.same e h3⟩
 | .lst ds,_,⟨a,xs,h1,h2,h3⟩=>⟨a,xs,h1,e.seq h2,ShL.same e h3⟩
theorem ShL.same (e:Same H H'):∀ {ds:List Dt} {xs:List V},ShL K H ds xs->ShL K H' ds xs
 | [],_,h=>h
 | d :: ds,_,⟨x,r,h1,h2,h3⟩=>⟨x,r,h1,Sh.same e h2,ShL.same e h3⟩
end
theorem ShL.length:∀ {ds:List Dt} {xs:List V},ShL K H ds xs->ds.length=xs.length
 | [],_,h=>by rw[show _=[] from h];rfl
 | d :: ds,_,⟨x,r,h1,h2,h3⟩=>by rw[h1,dm,dm,ShL.length h3]
theorem ShL.get:∀ {ds:List Dt} {xs:List V} {j:Nat} {d:Dt},ShL K H ds xs->ds[j]?=some d->∃ x,xs[j]?=some x/\Sh K H d x
 | [],_,_,_,_,h=>by simp at h
 | d :: ds,_,0,e,⟨x,r,h1,h2,h3⟩,h=>by
  have:d=e:=by simpa using h
  subst this
  exact ⟨x,by rw[h1];rfl,h2⟩
 | d :: ds,_,j+1,e,⟨x,r,h1,h2,h3⟩,h=>by
  obtain⟨y,h4,h5⟩:=ShL.get (j:=j) h3 (by simpa using h)
  exact ⟨y,by rw[h1];simpa using h4,h5⟩
theorem ShL.ints:∀ (ns:List Int),ShL K H (ns.map Dt.int) (ns.map V.int)
 | []=>rfl
 | n :: ns=>⟨.int n,ns.map V.int,rfl,rfl,ShL.ints ns⟩
theorem ShL.of_ints:∀ {ns:List Int} {xs:List V},ShL K H (ns.map Dt.int) xs->xs=ns.map V.int
 | [],_,h=>h
 | n :: ns,_,⟨x,r,h1,h2,h3⟩=>by rw[h1,ShL.of_ints h3,show x=V.int n from h2];rfl
end
mutual
theorem wK:∀ d:Dt,eqD d d=true
 | .non=>by unfold eqD;rfl
 | .bl b=>by unfold eqD;simp
 | .int b=>by unfold eqD;simp
 | .str b=>by unfold eqD;simp
 | .tup ds=>by unfold eqD;exact fX ds
 | .lst ds=>by unfold eqD;exact fX ds
theorem fX:∀ ds:List Dt,eqL ds ds=true
 | []=>by unfold eqL;rfl
 | d :: ds=>by unfold eqL;rw[wK d,fX ds];rfl
end
theorem oR:∀ {ds es:List Dt},eqL ds es=true->ds.length=es.length
 | [],[],_=>rfl
 | [],_ :: _,h=>by unfold eqL at h;cases h
 | _ :: _,[],h=>by unfold eqL at h;cases h
 | d :: ds,e :: es,h=>by
  unfold eqL at h
  rw[dm,dm,oR (p6.mp h).2]
theorem lC (n:Nat)(f:Nat->Bool):(av (n+1)).all f=(f 0 && (av n).all fun j=>f (j+1)):=by
 rw[oo,nk,sa]
 rfl
theorem oN:∀ (ds es:List Dt),((av (min ds.length es.length)).all (fun j=>eqD (ds.getD j .non) (es.getD j .non)) && ds.length == es.length)=eqL ds es
 | [],[]=>by unfold eqL;rfl
 | [],e :: es=>by unfold eqL;simp
 | d :: ds,[]=>by unfold eqL;simp
 | d :: ds,e :: es=>by
  have ih:=oN ds es
  unfold eqL
  rw[<- ih,dm,dm,Nat.succ_min_succ,lC,Bool.and_assoc]
  congr 1
  congr 1
  simp
theorem vG {ds:List Dt}{j:Nat}{d:Dt}(h:ds[j]?=some d):dep d<=aAe ds:=by
 induction ds generalizing j with
 | nil=>simp at h
 | cons e es ih=>
  unfold aAe
  cases j with
  | zero=>
   have:e=d:=by simpa using h
   subst this
   exact Nat.le_max_left _ _
  | succ j=>exact dg (ih (by simpa using h)) (Nat.le_max_right _ _)
section
variable {X:Cx}{pins:List (Addr × Obj)}{σ:St}{H:Hp}{s:Shared}
theorem Inv.tl_ne (I:Inv X pins σ H s){a:Addr}{xs ys:List V}(h:SqT X.K H a xs)(h':SqL X.K H a ys):False:=by
 obtain⟨its,r,⟨o,e,c,n,d⟩,_⟩:=I.tuple h
 obtain⟨its',r',⟨o',n',e',c',_,d'⟩,_⟩:=I.list h'
 rw[e] at e';cases e'
 rw[c] at c';simp at c'
mutual
theorem Inv.sh_inj (I:Inv X pins σ H s):∀ {d e:Dt} {v:V},Sh X.K H d v->Sh X.K H e v->d=e
 | .non,e,v,h,h'=>by
  have h:v = .non:=h
  subst h
  cases e <;> first | rfl | (exact absurd (show V.non=_ from h') (fun z=>nomatch z)) | (obtain⟨_,_,z,_⟩:=h';cases z)
 | .bl b,e,v,h,h'=>by
  have h:v = .bl b:=h
  subst h
  cases e <;> first | (cases (show V.bl b=V.bl _ from h');rfl) | (exact absurd (show V.bl b=_ from h') (fun z=>nomatch z)) | (obtain⟨_,_,z,_⟩:=h';cases z)
 | .int b,e,v,h,h'=>by
  have h:v = .int b:=h
  subst h
  cases e <;> first | (cases (show V.int b=V.int _ from h');rfl) | (exact absurd (show V.int b=_ from h') (fun z=>nomatch z)) | (obtain⟨_,_,z,_⟩:=h';cases z)
 | .str b,e,v,h,h'=>by
  have h:v = .str b:=h
  subst h
  cases e <;> first | (cases (show V.str b=V.str _ from h');rfl) | (exact absurd (show V.str b=_ from h') (fun z=>nomatch z)) | (obtain⟨_,_,z,_⟩:=h';cases z)
 | .tup ds,e,v,⟨a,xs,h1,h2,h3⟩,h'=>by
  subst h1
  cases e with
  | tup es=>
   obtain⟨a',xs',z,h2',h3'⟩:=h'
   cases z
   rw[I.tuple_inj h2' h2] at h3'
   rw[Inv.shL_inj I h3 h3']
  | lst es=>
   obtain⟨a',xs',z,h2',h3'⟩:=h'
   cases z
   exact (I.tl_ne h2 h2').elim
  | _=>exact absurd (show V.ref a=_ from h') (fun z=>nomatch z)
 | .lst ds,e,v,⟨a,xs,h1,h2,h3⟩,h'=>by
  subst h1
  cases e with
  | lst es=>
   obtain⟨a',xs',z,h2',h3'⟩:=h'
   cases z
   rw[I.list_inj h2' h2] at h3'
   rw[Inv.shL_inj I h3 h3']
  | tup es=>
   obtain⟨a',xs',z,h2',h3'⟩:=h'
   cases z
   exact (I.tl_ne h2' h2).elim
  | _=>exact absurd (show V.ref a=_ from h') (fun z=>nomatch z)
theorem Inv.shL_inj (I:Inv X pins σ H s):∀ {ds es:List Dt} {xs:List V},ShL X.K H ds xs->ShL X.K H es xs->ds=es
 | [],[],_,_,_=>rfl
 | [],e :: es,_,h,⟨x,r,h1,_⟩=>by rw[show _=[] from h] at h1;cases h1
 | d :: ds,[],_,⟨x,r,h1,_⟩,h=>by rw[show _=[] from h] at h1;cases h1
 | d :: ds,e :: es,_,⟨x,r,h1,h2,h3⟩,⟨x',r',h1',h2',h3'⟩=>by
  rw[h1] at h1'
  cases h1'
  rw[Inv.sh_inj I h2 h2',Inv.shL_inj I h3 h3']
end
end
section
variable {X:Cx}{pins:List (Addr × Obj)}{σ:St}{H:Hp}{s:Shared}
open PySem.SeqAt
theorem qK {ds es:List Dt}{xs ys:List V}{us vs:List Value}(hs:ShL X.K H ds xs)(hr:Vals xs us)(hs':ShL X.K H es ys)(hr':Vals ys vs){A:Around}
  (h:∀ (d e:Dt) (x y:V) (u v:Value),(∃ j:Nat,ds[j]?=some d)->RelV x u->RelV y v->Sh X.K H d x->Sh X.K H e y->EqAt A s u v (eqD d e)) :
  ∀ j (h1:j<us.toArray.size) (h2:j<vs.toArray.size),EqAt A s us.toArray[j] vs.toArray[j] (eqD (ds.getD j .non) (es.getD j .non)):=by
 intro j h1 h2
 have l1:=hs.length
 have l2:=hr.length
 have l3:=hs'.length
 have l4:=hr'.length
 have g1:j<us.length:=by simpa using h1
 have g2:j<vs.length:=by simpa using h2
 have e1:ds[j]?=some (ds.getD j .non):=by rw[ao,ah (by omega)];rfl
 have e2:es[j]?=some (es.getD j .non):=by rw[ao,ah (by omega)];rfl
 obtain⟨x,hx,sx⟩:=hs.get e1
 obtain⟨y,hy,sy⟩:=hs'.get e2
 obtain⟨u,hu,ru⟩:=hr.get hx
 obtain⟨v,hv,rv⟩:=hr'.get hy
 have q1:us.toArray[j]=u:=by
  rw[ah g1] at hu
  simpa using hu
 have q2:vs.toArray[j]=v:=by
  rw[ah g2] at hv
  simpa using hv
 rw[q1,q2]
 exact h _ _ x y u v ⟨j,e1⟩ ru rv sx sy
theorem Inv.eq_sh (I:Inv X pins σ H s):∀ (n:Nat) (A:Around) (d e:Dt) (x y:V) (u v:Value),dep d<=n->A.units+n<cLine->RelV x u->RelV y v->Sh X.K H d x->Sh X.K H e y->RcAt A s u v (eqD d e)/\EqAt A s u v (eqD d e):=by
 intro n
 induction n with
 | zero=>
  intro A d e x y u v hd hu rx ry hx hy
  have hu0:A.units<cLine:=by omega
  cases d with
  | tup ds=>unfold dep at hd;omega
  | lst ds=>unfold dep at hd;omega
  | non=>
   obtain rfl:x = .non:=hx
   obtain rfl:u=Value.none:=rx
   cases e with
   | non=>obtain rfl:y = .non:=hy;obtain rfl:v=Value.none:=ry;unfold eqD;exact ⟨RcAt.none_none,EqAt.same _⟩
   | bl b=>obtain rfl:y = .bl b:=hy;obtain rfl:v=Value.bool b:=ry;unfold eqD;exact ⟨RcAt.none_bool b,EqAt.none_bool b⟩
   | int b=>obtain rfl:y = .int b:=hy;obtain⟨t,rfl⟩:=ry;unfold eqD;exact ⟨RcAt.none_int b t,EqAt.none_int b t⟩
   | str b=>obtain rfl:y = .str b:=hy;obtain⟨t,rfl⟩:=ry;unfold eqD;exact ⟨RcAt.none_str b t,EqAt.none_str b t⟩
   | tup es=>obtain⟨b,ys,rfl,hq,_⟩:=hy;obtain rfl:v=Value.ref b:=ry;obtain⟨its,_,p,_⟩:=I.tuple hq;unfold eqD;exact ⟨RcAt.none_tuple (show s.heap.IsTuple b its.toArray from p) hu0,EqAt.none_tuple (show s.heap.IsTuple b its.toArray from p) hu0⟩
   | lst es=>obtain⟨b,ys,rfl,hq,_⟩:=hy;obtain rfl:v=Value.ref b:=ry;obtain⟨its,_,p,_⟩:=I.list hq;unfold eqD;exact ⟨RcAt.none_list p.isList hu0,EqAt.none_list p.isList hu0⟩
  | bl a=>
   obtain rfl:x = .bl a:=hx
   obtain rfl:u=Value.bool a:=rx
   cases e with
   | non=>obtain rfl:y = .non:=hy;obtain rfl:v=Value.none:=ry;unfold eqD;exact ⟨RcAt.bool_none a,EqAt.bool_none a⟩
   | bl b=>obtain rfl:y = .bl b:=hy;obtain rfl:v=Value.bool b:=ry;unfold eqD;exact ⟨RcAt.bool_bool a b,EqAt.bool_bool a b⟩
   | int b=>obtain rfl:y = .int b:=hy;obtain⟨t,rfl⟩:=ry;unfold eqD;exact ⟨RcAt.bool_int a b t,EqAt.bool_int a b t⟩
   | str b=>obtain rfl:y = .str b:=hy;obtain⟨t,rfl⟩:=ry;unfold eqD;exact ⟨RcAt.bool_str a b t,EqAt.bool_str a b t⟩
   | tup es=>obtain⟨b,ys,rfl,hq,_⟩:=hy;obtain rfl:v=Value.ref b:=ry;obtain⟨its,_,p,_⟩:=I.tuple hq;unfold eqD;exact ⟨RcAt.bool_tuple a (show s.heap.IsTuple b its.toArray from p) hu0,EqAt.bool_tuple a (show s.heap.IsTuple b its.toArray from p) hu0⟩
   | lst es=>obtain⟨b,ys,rfl,hq,_⟩:=hy;obtain rfl:v=Value.ref b:=ry;obtain⟨its,_,p,_⟩:=I.list hq;unfold eqD;exact ⟨RcAt.bool_list a p.isList hu0,EqAt.bool_list a p.isList hu0⟩
  | int a=>
   obtain rfl:x = .int a:=hx
   obtain⟨t0,rfl⟩:=rx
   cases e with
   | non=>obtain rfl:y = .non:=hy;obtain rfl:v=Value.none:=ry;unfold eqD;exact ⟨RcAt.int_none a t0,EqAt.int_none a t0⟩
   | bl b=>obtain rfl:y = .bl b:=hy;obtain rfl:v=Value.bool b:=ry;unfold eqD;exact ⟨RcAt.int_bool a t0 b,EqAt.int_bool a t0 b⟩
   | int b=>obtain rfl:y = .int b:=hy;obtain⟨t,rfl⟩:=ry;unfold eqD;exact ⟨RcAt.int_int a t0 b t,EqAt.int_int a t0 b t⟩
   | str b=>obtain rfl:y = .str b:=hy;obtain⟨t,rfl⟩:=ry;unfold eqD;exact ⟨RcAt.int_str a t0 b t,EqAt.int_str a t0 b t⟩
   | tup es=>obtain⟨b,ys,rfl,hq,_⟩:=hy;obtain rfl:v=Value.ref b:=ry;obtain⟨its,_,p,_⟩:=I.tuple hq;unfold eqD;exact ⟨RcAt.int_tuple a t0 (show s.heap.IsTuple b its.toArray from p) hu0,EqAt.int_tuple a t0 (show s.heap.IsTuple b its.toArray from p) hu0⟩
   | lst es=>obtain⟨b,ys,rfl,hq,_⟩:=hy;obtain rfl:v=Value.ref b:=ry;obtain⟨its,_,p,_⟩:=I.list hq;unfold eqD;exact ⟨RcAt.int_list a t0 p.isList hu0,EqAt.int_list a t0 p.isList hu0⟩
  | str a=>
   obtain rfl:x = .str a:=hx
   obtain⟨t0,rfl⟩:=rx
   cases e with
   | non=>obtain rfl:y = .non:=hy;obtain rfl:v=Value.none:=ry;unfold eqD;exact ⟨RcAt.str_none a t0,EqAt.str_none a t0⟩
   | bl b=>obtain rfl:y = .bl b:=hy;obtain rfl:v=Value.bool b:=ry;unfold eqD;exact ⟨RcAt.str_bool a t0 b,EqAt.str_bool a t0 b⟩
   | int b=>obtain rfl:y = .int b:=hy;obtain⟨t,rfl⟩:=ry;unfold eqD;exact ⟨RcAt.str_int a t0 b t,EqAt.str_int a t0 b t⟩
   | str b=>obtain rfl:y = .str b:=hy;obtain⟨t,rfl⟩:=ry;unfold eqD;exact ⟨RcAt.str_str a t0 b t,EqAt.str_str a t0 b t⟩
   | tup es=>obtain⟨b,ys,rfl,hq,_⟩:=hy;obtain rfl:v=Value.ref b:=ry;obtain⟨its,_,p,_⟩:=I.tuple hq;unfold eqD;exact ⟨RcAt.str_tuple a t0 (show s.heap.IsTuple b its.toArray from p) hu0,EqAt.str_tuple a t0 (show s.heap.IsTuple b its.toArray from p) hu0⟩
   | lst es=>obtain⟨b,ys,rfl,hq,_⟩:=hy;obtain rfl:v=Value.ref b:=ry;obtain⟨its,_,p,_⟩:=I.list hq;unfold eqD;exact ⟨RcAt.str_list a t0 p.isList hu0,EqAt.str_list a t0 p.isList hu0⟩
 | succ n ih=>
  intro A d e x y u v hd hu rx ry hx hy
  have hu0:A.units<cLine:=by omega
  by_cases hd0:dep d<=n
  ·exact ih A d e x y u v hd0 (by omega) rx ry hx hy
  cases d with
  | non=>exact absurd (ay _) hd0
  | bl a=>exact absurd (ay _) hd0
  | int a=>exact absurd (ay _) hd0
  | str a=>exact absurd (ay _) hd0
  | tup ds=>
   have hdd:aAe ds<=n:=by unfold dep at hd;omega
   have hx0:=hx
   obtain⟨a,xs,rfl,hq,hl⟩:=hx
   obtain rfl:u=Value.ref a:=rx
   obtain⟨its,rv,p,_⟩:=I.tuple hq
   have p:s.heap.IsTuple a its.toArray:=p
   cases e with
   | non=>obtain rfl:y = .non:=hy;obtain rfl:v=Value.none:=ry;unfold eqD;exact ⟨RcAt.tuple_none p hu0,EqAt.tuple_none p hu0⟩
   | bl b=>obtain rfl:y = .bl b:=hy;obtain rfl:v=Value.bool b:=ry;unfold eqD;exact ⟨RcAt.tuple_bool b p hu0,EqAt.tuple_bool b p hu0⟩
   | int b=>obtain rfl:y = .int b:=hy;obtain⟨t,rfl⟩:=ry;unfold eqD;exact ⟨RcAt.tuple_int b t p hu0,EqAt.tuple_int b t p hu0⟩
   | str b=>obtain rfl:y = .str b:=hy;obtain⟨t,rfl⟩:=ry;unfold eqD;exact ⟨RcAt.tuple_str b t p hu0,EqAt.tuple_str b t p hu0⟩
   | lst es=>obtain⟨b,ys,rfl,hq',_⟩:=hy;obtain rfl:v=Value.ref b:=ry;obtain⟨its',_,p',_⟩:=I.list hq';unfold eqD;exact ⟨RcAt.tuple_list p p'.isList hu0,EqAt.tuple_list p p'.isList hu0⟩
   | tup es=>
    have hy0:=hy
    obtain⟨b,ys,rfl,hq',hl'⟩:=hy
    obtain rfl:v=Value.ref b:=ry
    obtain⟨its',rv',p',_⟩:=I.tuple hq'
    have p':s.heap.IsTuple b its'.toArray:=p'
    have he:=qK (A:=A.in1) (s:=s) hl rv hl' rv' (fun d e x y u v ⟨j,hj⟩ r1 r2 s1 s2=>(ih A.in1 d e x y u v (dg (vG hj) hdd) (by show A.units+1+n<cLine;omega) r1 r2 s1 s2).2)
    have rc:=RcAt.tuples p p' hu0 he
    have l1:=hl.length
    have l2:=rv.length
    have l3:=hl'.length
    have l4:=rv'.length
    rw[aq,aq,<- l2,<- l4,<- l1,<- l3,oN] at rc
    unfold eqD
    refine ⟨rc,?_⟩
    by_cases hab:a=b
    ·subst hab
     have:=I.sh_inj hx0 hy0
     cases this
     rw[fX]
     exact EqAt.same _
    ·exact EqAt.of_refs hab rc
  | lst ds=>
   have hdd:aAe ds<=n:=by unfold dep at hd;omega
   have hx0:=hx
   obtain⟨a,xs,rfl,hq,hl⟩:=hx
   obtain rfl:u=Value.ref a:=rx
   obtain⟨its,rv,p,_⟩:=I.list hq
   have p:=p.isList
   cases e with
   | non=>obtain rfl:y = .non:=hy;obtain rfl:v=Value.none:=ry;unfold eqD;exact ⟨RcAt.list_none p hu0,EqAt.list_none p hu0⟩
   | bl b=>obtain rfl:y = .bl b:=hy;obtain rfl:v=Value.bool b:=ry;unfold eqD;exact ⟨RcAt.list_bool b p hu0,EqAt.list_bool b p hu0⟩
   | int b=>obtain rfl:y = .int b:=hy;obtain⟨t,rfl⟩:=ry;unfold eqD;exact ⟨RcAt.list_int b t p hu0,EqAt.list_int b t p hu0⟩
   | str b=>obtain rfl:y = .str b:=hy;obtain⟨t,rfl⟩:=ry;unfold eqD;exact ⟨RcAt.list_str b t p hu0,EqAt.list_str b t p hu0⟩
   | tup es=>obtain⟨b,ys,rfl,hq',_⟩:=hy;obtain rfl:v=Value.ref b:=ry;obtain⟨its',_,p',_⟩:=I.tuple hq';unfold eqD;exact ⟨RcAt.list_tuple p (show s.heap.IsTuple b its'.toArray from p') hu0,EqAt.list_tuple p (show s.heap.IsTuple b its'.toArray from p') hu0⟩
   | lst es=>
    have hy0:=hy
    obtain⟨b,ys,rfl,hq',hl'⟩:=hy
    obtain rfl:v=Value.ref b:=ry
    obtain⟨its',rv',p',_⟩:=I.list hq'
    have p':=p'.isList
    have l1:=hl.length
    have l2:=rv.length
    have l3:=hl'.length
    have l4:=rv'.length
    have rc:RcAt A s (.ref a) (.ref b) (eqL ds es):=by
     by_cases hz:ds.length=es.length
     ·have he:=qK (A:=A.in1) (s:=s) hl rv hl' rv' (fun d e x y u v ⟨j,hj⟩ r1 r2 s1 s2=>(ih A.in1 d e x y u v (dg (vG hj) hdd) (by show A.units+1+n<cLine;omega) r1 r2 s1 s2).2)
      have rc:=RcAt.lists p p' (by rw[aq,aq];omega) hu0 he
      rw[aq,<- l2,<- l1] at rc
      have q:=oN ds es
      rw[<- hz,Nat.min_self,beq_self_eq_true,Bool.and_true] at q
      rw[<- q]
      exact rc
     ·have q:eqL ds es=false:=by
       cases q:eqL ds es with
       | false=>rfl
       | true=>exact absurd (oR q) hz
      rw[q]
      exact RcAt.lists_lengths p p' (by rw[aq,aq];simp;omega) hu0
    unfold eqD
    refine ⟨rc,?_⟩
    by_cases hab:a=b
    ·subst hab
     have:=I.sh_inj hx0 hy0
     cases this
     rw[fX]
     exact EqAt.same _
    ·exact EqAt.of_refs hab rc
def iX (K:aa):R2:=fun x y H Q=>∃ d e,dep d<=100/\Sh K H d x/\Sh K H e y/\Q (.bl (eqD d e)) H
theorem aIw (hu:X.A.units+100<cLine):OpR X (gj .Eq) (iX X.K):=by
 intro pins s σ H x y v u Q I rx ry ⟨d,e,hd,hx,hy,q⟩
 exact (I.eq_sh 100 X.A d e x y v u hd hu rx ry hx hy).1 X.prog X.w X.xe _ ⟨.bl _,H,I,rfl,q⟩
end
section
variable {X:Cx}{pins:List (Addr × Obj)}{σ:St}{H:Hp}{s:Shared}
open PySem.SeqAt
theorem Inv.ne_sh (I:Inv X pins σ H s){A:Around}(d e:Dt)(x y:V)(u v:Value)(hd:dep d<=100)(hu:A.units+101<cLine)(rx:RelV x u)(ry:RelV y v)(hx:Sh X.K H d x)(hy:Sh X.K H e y):RcNeAt A s u v (!eqD d e):=by
 have hu0:A.units<cLine:=by omega
 cases d with
 | non=>
  obtain rfl:x = .non:=hx
  obtain rfl:u=Value.none:=rx
  cases e with
  | non=>obtain rfl:y = .non:=hy;obtain rfl:v=Value.none:=ry;unfold eqD;exact RcNeAt.none_none
  | bl b=>obtain rfl:y = .bl b:=hy;obtain rfl:v=Value.bool b:=ry;unfold eqD;exact RcNeAt.none_bool b
  | int b=>obtain rfl:y = .int b:=hy;obtain⟨t,rfl⟩:=ry;unfold eqD;exact RcNeAt.none_int b t
  | str b=>obtain rfl:y = .str b:=hy;obtain⟨t,rfl⟩:=ry;unfold eqD;exact RcNeAt.none_str b t
  | tup es=>obtain⟨b,ys,rfl,hq,_⟩:=hy;obtain rfl:v=Value.ref b:=ry;obtain⟨its,_,p,_⟩:=I.tuple hq;unfold eqD;exact RcNeAt.none_tuple (show s.heap.IsTuple b its.toArray from p) hu0
  | lst es=>obtain⟨b,ys,rfl,hq,_⟩:=hy;obtain rfl:v=Value.ref b:=ry;obtain⟨its,_,p,_⟩:=I.list hq;unfold eqD;exact RcNeAt.none_list p.isList hu0
 | bl a=>
  obtain rfl:x = .bl a:=hx
  obtain rfl:u=Value.bool a:=rx
  cases e with
  | non=>obtain rfl:y = .non:=hy;obtain rfl:v=Value.none:=ry;unfold eqD;exact RcNeAt.bool_none a
  | bl b=>obtain rfl:y = .bl b:=hy;obtain rfl:v=Value.bool b:=ry;unfold eqD;exact RcNeAt.bool_bool a b
  | int b=>obtain rfl:y = .int b:=hy;obtain⟨t,rfl⟩:=ry;unfold eqD;exact RcNeAt.bool_int a b t
  | str b=>obtain rfl:y = .str b:=hy;obtain⟨t,rfl⟩:=ry;unfold eqD;exact RcNeAt.bool_str a b t
  | tup es=>obtain⟨b,ys,rfl,hq,_⟩:=hy;obtain rfl:v=Value.ref b:=ry;obtain⟨its,_,p,_⟩:=I.tuple hq;unfold eqD;exact RcNeAt.bool_tuple a (show s.heap.IsTuple b its.toArray from p) hu0
  | lst es=>obtain⟨b,ys,rfl,hq,_⟩:=hy;obtain rfl:v=Value.ref b:=ry;obtain⟨its,_,p,_⟩:=I.list hq;unfold eqD;exact RcNeAt.bool_list a p.isList hu0
 | int a=>
  obtain rfl:x = .int a:=hx
  obtain⟨t0,rfl⟩:=rx
  cases e with
  | non=>obtain rfl:y = .non:=hy;obtain rfl:v=Value.none:=ry;unfold eqD;exact RcNeAt.int_none a t0
  | bl b=>obtain rfl:y = .bl b:=hy;obtain rfl:v=Value.bool b:=ry;unfold eqD;exact RcNeAt.int_bool a t0 b
  | int b=>obtain rfl:y = .int b:=hy;obtain⟨t,rfl⟩:=ry;unfold eqD;exact RcNeAt.int_int a t0 b t
  | str b=>obtain rfl:y = .str b:=hy;obtain⟨t,rfl⟩:=ry;unfold eqD;exact RcNeAt.int_str a t0 b t
  | tup es=>obtain⟨b,ys,rfl,hq,_⟩:=hy;obtain rfl:v=Value.ref b:=ry;obtain⟨its,_,p,_⟩:=I.tuple hq;unfold eqD;exact RcNeAt.int_tuple a t0 (show s.heap.IsTuple b its.toArray from p) hu0
  | lst es=>obtain⟨b,ys,rfl,hq,_⟩:=hy;obtain rfl:v=Value.ref b:=ry;obtain⟨its,_,p,_⟩:=I.list hq;unfold eqD;exact RcNeAt.int_list a t0 p.isList hu0
 | str a=>
  obtain rfl:x = .str a:=hx
  obtain⟨t0,rfl⟩:=rx
  cases e with
  | non=>obtain rfl:y = .non:=hy;obtain rfl:v=Value.none:=ry;unfold eqD;exact RcNeAt.str_none a t0
  | bl b=>obtain rfl:y = .bl b:=hy;obtain rfl:v=Value.bool b:=ry;unfold eqD;exact RcNeAt.str_bool a t0 b
  | int b=>obtain rfl:y = .int b:=hy;obtain⟨t,rfl⟩:=ry;unfold eqD;exact RcNeAt.str_int a t0 b t
  | str b=>obtain rfl:y = .str b:=hy;obtain⟨t,rfl⟩:=ry;unfold eqD;exact RcNeAt.str_str a t0 b t
  | tup es=>obtain⟨b,ys,rfl,hq,_⟩:=hy;obtain rfl:v=Value.ref b:=ry;obtain⟨its,_,p,_⟩:=I.tuple hq;unfold eqD;exact RcNeAt.str_tuple a t0 (show s.heap.IsTuple b its.toArray from p) hu0
  | lst es=>obtain⟨b,ys,rfl,hq,_⟩:=hy;obtain rfl:v=Value.ref b:=ry;obtain⟨its,_,p,_⟩:=I.list hq;unfold eqD;exact RcNeAt.str_list a t0 p.isList hu0
 | tup ds=>
  have hdd:aAe ds<=100:=by unfold dep at hd;omega
  obtain⟨a,xs,rfl,hq,hl⟩:=hx
  obtain rfl:u=Value.ref a:=rx
  obtain⟨its,rv,p,_⟩:=I.tuple hq
  have p:s.heap.IsTuple a its.toArray:=p
  cases e with
  | non=>obtain rfl:y = .non:=hy;obtain rfl:v=Value.none:=ry;unfold eqD;exact RcNeAt.tuple_none p hu0
  | bl b=>obtain rfl:y = .bl b:=hy;obtain rfl:v=Value.bool b:=ry;unfold eqD;exact RcNeAt.tuple_bool b p hu0
  | int b=>obtain rfl:y = .int b:=hy;obtain⟨t,rfl⟩:=ry;unfold eqD;exact RcNeAt.tuple_int b t p hu0
  | str b=>obtain rfl:y = .str b:=hy;obtain⟨t,rfl⟩:=ry;unfold eqD;exact RcNeAt.tuple_str b t p hu0
  | lst es=>obtain⟨b,ys,rfl,hq',_⟩:=hy;obtain rfl:v=Value.ref b:=ry;obtain⟨its',_,p',_⟩:=I.list hq';unfold eqD;exact RcNeAt.tuple_list p p'.isList hu0
  | tup es=>
   obtain⟨b,ys,rfl,hq',hl'⟩:=hy
   obtain rfl:v=Value.ref b:=ry
   obtain⟨its',rv',p',_⟩:=I.tuple hq'
   have p':s.heap.IsTuple b its'.toArray:=p'
   have he:=qK (A:=A.in1) (s:=s) hl rv hl' rv' (fun d e x y u v ⟨j,hj⟩ r1 r2 s1 s2=>(I.eq_sh 100 A.in1 d e x y u v (dg (vG hj) hdd) (by show A.units+1+100<cLine;omega) r1 r2 s1 s2).2)
   have rc:=RcNeAt.tuples p p' hu0 he
   have l1:=hl.length
   have l2:=rv.length
   have l3:=hl'.length
   have l4:=rv'.length
   rw[aq,aq,<- l2,<- l4,<- l1,<- l3,oN] at rc
   unfold eqD
   exact rc
 | lst ds=>
  have hdd:aAe ds<=100:=by unfold dep at hd;omega
  obtain⟨a,xs,rfl,hq,hl⟩:=hx
  obtain rfl:u=Value.ref a:=rx
  obtain⟨its,rv,p,_⟩:=I.list hq
  have p:=p.isList
  cases e with
  | non=>obtain rfl:y = .non:=hy;obtain rfl:v=Value.none:=ry;unfold eqD;exact RcNeAt.list_none p hu0
  | bl b=>obtain rfl:y = .bl b:=hy;obtain rfl:v=Value.bool b:=ry;unfold eqD;exact RcNeAt.list_bool b p hu0
  | int b=>obtain rfl:y = .int b:=hy;obtain⟨t,rfl⟩:=ry;unfold eqD;exact RcNeAt.list_int b t p hu0
  | str b=>obtain rfl:y = .str b:=hy;obtain⟨t,rfl⟩:=ry;unfold eqD;exact RcNeAt.list_str b t p hu0
  | tup es=>obtain⟨b,ys,rfl,hq',_⟩:=hy;obtain rfl:v=Value.ref b:=ry;obtain⟨its',_,p',_⟩:=I.tuple hq';unfold eqD;exact RcNeAt.list_tuple p (show s.heap.IsTuple b its'.toArray from p') hu0
  | lst es=>
   obtain⟨b,ys,rfl,hq',hl'⟩:=hy
   obtain rfl:v=Value.ref b:=ry
   obtain⟨its',rv',p',_⟩:=I.list hq'
   have p':=p'.isList
   have l1:=hl.length
   have l2:=rv.length
   have l3:=hl'.length
   have l4:=rv'.length
   unfold eqD
   by_cases hz:ds.length=es.length
   ·have he:=qK (A:=A.in1) (s:=s) hl rv hl' rv' (fun d e x y u v ⟨j,hj⟩ r1 r2 s1 s2=>(I.eq_sh 100 A.in1 d e x y u v (dg (vG hj) hdd) (by show A.units+1+100<cLine;omega) r1 r2 s1 s2).2)
    have rc:=RcNeAt.lists p p' (by rw[aq,aq];omega) hu0 he
    rw[aq,<- l2,<- l1] at rc
    have q:=oN ds es
    rw[<- hz,Nat.min_self,beq_self_eq_true,Bool.and_true] at q
    rw[<- q]
    exact rc
   ·have q:eqL ds es=false:=by
     cases q:eqL ds es with
     | false=>rfl
     | true=>exact absurd (oR q) hz
    rw[q]
    exact RcNeAt.lists_lengths p p' (by rw[aq,aq];simp;omega) hu0
def aBK (K:aa):R2:=fun x y H Q=>∃ d e,dep d<=100/\Sh K H d x/\Sh K H e y/\Q (.bl (!eqD d e)) H
theorem aJt (hu:X.A.units+101<cLine):OpR X (gj .NotEq) (aBK X.K):=by
 intro pins s σ H x y v u Q I rx ry ⟨d,e,hd,hx,hy,q⟩
 exact (I.ne_sh d e x y v u hd hu rx ry hx hy) X.prog X.w X.xe _ ⟨.bl _,H,I,rfl,q⟩
def aGg:Dt->String->Bool
 | .non,_=>false
 | .bl _,T=>T == "bool" || T == "int"
 | .int _,T=>T == "int"
 | .str _,T=>T == "str"
 | .tup _,T=>T == "tuple"
 | .lst _,T=>T == "list"
def aGP (K:aa):List V->Hp->VK->Prop:=fun vs H Q=>∃ x d T,vs=[x, .ty T]/\(T="int"\/T="bool"\/T="tuple"\/T="list"\/T="str")/\Sh K H d x/\Q (.bl (aGg d T)) H
theorem aFq:CallR X (.builtin "isinstance") (aGP X.K):=by
 intro pins s σ H xs us Q I r ⟨x,d,T,e,hT,hx,q⟩
 subst e
 obtain⟨u,w',rfl,rx,rt⟩:=r.two
 obtain rfl:w'=Value.type T:=rt
 have fin:∀ (b:Bool) (t:Nat),aGg d T=b->EP X pins σ Q (.bool b) { s with toks:=t }:=fun b t e=>⟨.bl b,H,I.tok t,rfl,by rw[<- e];exact q⟩
 have fin0:∀ (b:Bool),aGg d T=b->EP X pins σ Q (.bool b) s:=fun b e=>⟨.bl b,H,I,rfl,by rw[<- e];exact q⟩
 cases d with
 | non=>
  obtain rfl:x = .non:=hx
  obtain rfl:u=Value.none:=rx
  rcases hT with rfl | rfl | rfl | rfl | rfl
  ·exact IsiPair.NoneType_int (fin _ _ rfl)
  ·exact IsiPair.NoneType_bool (fin _ _ rfl)
  ·exact IsiPair.NoneType_tuple (fin _ _ rfl)
  ·exact IsiPair.NoneType_list (fin _ _ rfl)
  ·exact IsiPair.NoneType_str (fin _ _ rfl)
 | bl b=>
  obtain rfl:x = .bl b:=hx
  obtain rfl:u=Value.bool b:=rx
  rcases hT with rfl | rfl | rfl | rfl | rfl
  ·exact IsiPair.bool_int (fin0 _ rfl)
  ·exact IsiPair.bool_bool (fin0 _ rfl)
  ·exact IsiPair.bool_tuple (fin _ _ rfl)
  ·exact IsiPair.bool_list (fin _ _ rfl)
  ·exact IsiPair.bool_str (fin _ _ rfl)
 | int b=>
  obtain rfl:x = .int b:=hx
  obtain⟨t,rfl⟩:=rx
  rcases hT with rfl | rfl | rfl | rfl | rfl
  ·exact IsiPair.int_int (fin0 _ rfl)
  ·exact IsiPair.int_bool (fin _ _ rfl)
  ·exact IsiPair.int_tuple (fin _ _ rfl)
  ·exact IsiPair.int_list (fin _ _ rfl)
  ·exact IsiPair.int_str (fin _ _ rfl)
 | str b=>
  obtain rfl:x = .str b:=hx
  obtain⟨t,rfl⟩:=rx
  rcases hT with rfl | rfl | rfl | rfl | rfl
  ·exact IsiPair.str_int (fin _ _ rfl)
  ·exact IsiPair.str_bool (fin _ _ rfl)
  ·exact IsiPair.str_tuple (fin _ _ rfl)
  ·exact IsiPair.str_list (fin _ _ rfl)
  ·exact IsiPair.str_str (fin0 _ rfl)
 | tup ds=>
  obtain⟨a,ys,rfl,hq,_⟩:=hx
  obtain rfl:u=Value.ref a:=rx
  obtain⟨its,_,⟨o,ho,hc,_⟩,_⟩:=I.tuple hq
  rcases hT with rfl | rfl | rfl | rfl | rfl
  ·exact IsiPair.tuple_int ho hc (fin _ _ rfl)
  ·exact IsiPair.tuple_bool ho hc (fin _ _ rfl)
  ·exact IsiPair.tuple_tuple ho hc (fin0 _ rfl)
  ·exact IsiPair.tuple_list ho hc (fin _ _ rfl)
  ·exact IsiPair.tuple_str ho hc (fin _ _ rfl)
 | lst ds=>
  obtain⟨a,ys,rfl,hq,_⟩:=hx
  obtain rfl:u=Value.ref a:=rx
  obtain⟨its,_,p,_⟩:=I.list hq
  obtain⟨o,ho,hc,_⟩:=p.isList
  rcases hT with rfl | rfl | rfl | rfl | rfl
  ·exact IsiPair.list_int ho hc (fin _ _ rfl)
  ·exact IsiPair.list_bool ho hc (fin _ _ rfl)
  ·exact IsiPair.list_tuple ho hc (fin _ _ rfl)
  ·exact IsiPair.list_list ho hc (fin0 _ rfl)
  ·exact IsiPair.list_str ho hc (fin _ _ rfl)
theorem aAT {prog:Program}{w:World}{A:Around}(hh:A.handled=none)(It ax:Addr)(hne:ax≠It)(items:Array Value) :
  Walks prog w A It [It,ax] [It] items.size (fun i v=>items[i]?=some v) (fun i h=>h.IsTupleIter It ax i/\h.IsTuple ax items) where
 sub:=fun b hb=>by simp at hb;simp [hb]
 frame:=fun _ _ _ st hk=>⟨st.1.at fun o e=>hk It (by simp) o e,let ⟨o,e,r⟩:=st.2;⟨o,hk ax (by simp) o e,r⟩⟩
 item:=fun i s Q E hi st hQ=>by
  refine uk st.1 st.2 (x:=items[i]) (by simp [hi]) fun h' hit' hs'=>?_
  refine hQ _ h' s.toks (by simp [hi]) ⟨hit',?_⟩ fun b o hb e=>hs'.extBut b o (fun h=>hb (by simp [h])) e
  obtain⟨o,e,r⟩:=st.2
  exact ⟨o,hs'.extBut _ _ hne e,r⟩
 done:=fun s Q E st hQ=>vj hh st.1 st.2 (by simp) fun h' he'=>hQ h' s.toks fun b o hb e=>he' b o (fun h=>hb (by simp [h])) e
 self:=fun _ _ _ _ st hQ=>vk st.1 hQ
def Sq (K:aa) (H:Hp) (a:Addr) (xs:List V):Prop:=SqL K H a xs\/SqT K H a xs
theorem wV {A:Around}{a:Addr}{xs:List V}{Q:Value->Shared->Prop}{E:Value->Shared->Prop}(hh:A.handled=none)(I:Inv X pins σ H s)(h:Sq X.K H a xs)
  (hq:∀ (its:List Value) (It:Addr) (fp wr:List Addr) (S:Nat->Heap->Prop) (s2:Shared),Vals xs its->xs.length<=ba->Walks X.prog X.w A It fp wr its.length (fun i v=>its[i]?=some v) S->S 0 s2.heap->(∀ b∈fp,b<s2.heap.objs.size) ->
   (∀ h' tk,(∀ b o,b∉wr->s2.heap.get? b=some o->h'.get? b=some o)->Inv X pins σ H { s2 with heap:=h',toks:=tk })->Q (.ref It) s2):wpAny (model X.prog X.w) A (y9 (.ref a)) Q E s:=by
 rcases h with h | h
 ·obtain⟨its,rv,p,hz⟩:=I.list h
  refine oz p.isList ?_
  have ha:a<s.heap.objs.size:=by obtain⟨o,e,_⟩:=p.isList;exact bo e
  refine hq its s.heap.objs.size [s.heap.objs.size,a] [s.heap.objs.size] (fun i h=>h.IsListIter s.heap.objs.size a i/\h.IsList a its.toArray) _ rv hz (by simpa using Walks.list (prog:=X.prog) (w:=X.w) hh s.heap.objs.size a (di ha) its.toArray) ⟨⟨_,bh _ rfl,rfl,rfl⟩,?_⟩ (fun b hb=>?_) fun h' tk hk=>?_
  ·obtain⟨o,e,r⟩:=p.isList
   exact ⟨o,aj _ e,r⟩
  ·simp at hb
   show b<(s.heap.push _).objs.size
   rw[fv]
   rcases hb with rfl | rfl
   ·exact jv _
   ·exact gw ha
  ·exact I.kept fun b o e=>hk b o (by simpa using di (bo e)) (aj _ e)
 ·obtain⟨its,rv,p,hz⟩:=I.tuple h
  have p:s.heap.IsTuple a its.toArray:=p
  refine sd p ?_
  have ha:a<s.heap.objs.size:=by obtain⟨o,e,_⟩:=p;exact bo e
  refine hq its s.heap.objs.size [s.heap.objs.size,a] [s.heap.objs.size] (fun i h=>h.IsTupleIter s.heap.objs.size a i/\h.IsTuple a its.toArray) _ rv hz (by simpa using aAT (prog:=X.prog) (w:=X.w) hh s.heap.objs.size a (di ha) its.toArray) ⟨⟨_,bh _ rfl,rfl,rfl⟩,?_⟩ (fun b hb=>?_) fun h' tk hk=>?_
  ·obtain⟨o,e,r⟩:=p
   exact ⟨o,aj _ e,r⟩
  ·simp at hb
   show b<(s.heap.push _).objs.size
   rw[fv]
   rcases hb with rfl | rfl
   ·exact jv _
   ·exact gw ha
  ·exact I.kept fun b o e=>hk b o (by simpa using di (bo e)) (aj _ e)
theorem Vals.getR:∀ {xs:List V} {us:List Value} {i:Nat} {u:Value},Vals xs us->us[i]?=some u->∃ x,xs[i]?=some x/\RelV x u
 | _,_,_,_, .nil,e=>by simp at e
 | _,_,0,_, .cons r _,e=>by simp at e;subst e;exact ⟨_,rfl,r⟩
 | _,_,i+1,u, .cons _ t,e=>by
  obtain⟨x,h1,h2⟩:=Vals.getR (i:=i) (u:=u) t (by simpa using e)
  exact ⟨x,by simpa using h1,h2⟩
theorem aEH (hc:X.calm=true):CallR X (.builtin "all") (fun vs H Q=>∃ (a:Addr) (bs:List Bool),vs=[.ref a]/\Sq X.K H a (bs.map V.bl)/\Q (.bl (bs.all id)) H):=by
 intro pins s σ H xs us Q I r ⟨a,bs,e,hq,q⟩
 subst e
 obtain⟨u,rfl,ru⟩:=r.one
 obtain rfl:u=Value.ref a:=ru
 refine call_all_walk (wV (I.ok.hd hc) I hq fun its It fp wr S s2 rv hz W st hf hI=>?_)
 refine ⟨It,fp,wr,its.length,_,S,fun j=>bs.getD j false,rfl,W,st,fun i v s' Q' E' hv hQ'=>?_,fun h' tk hk=>?_⟩
 ·obtain⟨x,hx,rx⟩:=rv.getR hv
  rw[cf] at hx
  cases hb:bs[i]? with
  | none=>rw[hb] at hx;cases hx
  | some b=>
   rw[hb] at hx
   obtain rfl:V.bl b=x:=by simpa using hx
   obtain rfl:v=Value.bool b:=rx
   have:bs.getD i false=b:=by rw[ao,hb];rfl
   have hQ':Q' (bs.getD i false) s':=hQ'
   rw[this] at hQ'
   exact gp hQ'
 ·refine ⟨.bl (bs.all id),H,hI h' tk hk,?_,q⟩
  show Value.bool _=Value.bool _
  congr 1
  have hl:its.length=bs.length:=by rw[<- rv.length,af]
  rw[hl]
  clear q hq rv hl hz
  induction bs with
  | nil=>rfl
  | cons b bs ih=>rw[dm,lC,nk];exact congrArg (fun z=>b && z) ih
theorem sL:∀ (ns:List Int) (k:Nat),k<=ns.length->preSum (fun j=>ns.getD j 0) k=(ns.take k).sum
 | ns,0,_=>by simp [preSum]
 | ns,k+1,h=>by
  have e:ns.take (k+1)=ns.take k++[ns[k]]:=by
   rw[gx,ah (by omega)];rfl
  have g:ns.getD k 0=ns[k]:=by rw[ao,ah (by omega)];rfl
  rw[preSum,sL ns k (by omega),e,List.sum_append_int,g]
  simp
theorem aFl (hc:X.calm=true):CallR X (.builtin "sum") (fun vs H Q=>∃ (a:Addr) (ns:List Int),vs=[.ref a]/\Sq X.K H a (ns.map V.int)/\Q (.int ns.sum) H):=by
 intro pins s σ H xs us Q I r ⟨a,ns,e,hq,q⟩
 subst e
 obtain⟨u,rfl,ru⟩:=r.one
 obtain rfl:u=Value.ref a:=ru
 refine call_sum_walkG (wV (I.ok.hd hc) I hq fun its It fp wr S s2 rv hz W st hf hI=>?_)
 refine ⟨It,fp,wr,its.length,_,S,fun j=>ns.getD j 0,rfl,W,st,hf,fun i v hv=>?_,fun h' tk t' hk=>?_⟩
 ·obtain⟨x,hx,rx⟩:=rv.getR hv
  rw[cf] at hx
  cases hb:ns[i]? with
  | none=>rw[hb] at hx;cases hx
  | some b=>
   rw[hb] at hx
   obtain rfl:V.int b=x:=by simpa using hx
   obtain⟨t,rfl⟩:=rx
   exact ⟨t,by show Value.int b t=Value.int (ns.getD i 0) t;rw[ao,hb];rfl⟩
 ·have hl:its.length=ns.length:=by rw[<- rv.length,af]
  refine ⟨.int ns.sum,H,hI h' tk hk,⟨t',?_⟩,q⟩
  rw[hl,sL ns ns.length (bg _),fq]
end
section
variable {X:Cx}
def aJa (K:aa):R2:=fun x y H Q=>∃ a b xs ys,x = .ref a/\y = .ref b/\SqT K H a xs/\SqT K H b ys/\xs.length+ys.length<=ba /\
 ∀ p H',((p=a/\H'=H/\ys=[])\/(p=b/\H'=H/\xs=[])\/(H p=none/\H'=upd H p (.tup (xs++ys))))->SqT K H' p (xs++ys)->Same H H'->Q (.ref p) H'
theorem aG {H:Hp}{p:Addr}(h:H p=none)(o:HO):Same H (upd H p o):=fun b u q=>by rw[bA (bO q h)];exact q
theorem aHp:OpR X (kd .Add) (aJa X.K):=by
 intro pins s σ H x y v u Q I rx ry ⟨a,b,xs,ys,ex,ey,ha,hb,hz,q⟩
 subst ex ey
 obtain rfl:v=Value.ref a:=rx
 obtain rfl:u=Value.ref b:=ry
 by_cases hx:xs=[]
 ·obtain⟨its,r1,p1,_⟩:=I.tuple ha
  obtain⟨its2,r2,p2,_⟩:=I.tuple hb
  have he:its=[]:=r1.nil_iff.mpr hx
  obtain⟨⟨cls,dd,data,sl⟩,ho,hc,n,hd⟩:=id p1
  obtain⟨⟨cls2,dd2,data2,sl2⟩,ho2,hc2,n2,hd2⟩:=id p2
  simp only at hc hd hc2 hd2
  subst hc hd hc2 hd2
  refine yp ⟨_,ho,rfl⟩ ⟨_,ho2,rfl⟩ vh ya oh nj (nc _ _)
   (tuple_addW0 a b its.toArray its2.toArray n n2 dd dd2 sl sl2 (by simp [he])) ⟨ho,ho2,?_⟩
  exact ⟨.ref b,H,I,rfl,q b H (.inr (.inl ⟨rfl,rfl,hx⟩)) (by rw[hx];exact hb) (Same.refl H)⟩
 ·refine aHc (X:=X) pins s σ H (.ref a) (.ref b) (.ref a) (.ref b) Q I rfl rfl ⟨a,b,xs,ys,rfl,rfl,ha,hb,hx,hz,fun hy=>?_,fun hy p hp=>?_⟩
  ·exact q a H (.inl ⟨rfl,rfl,hy⟩) (by rw[hy,i4];exact ha) (Same.refl H)
  ·exact q p _ (.inr (.inr ⟨hp,rfl⟩)) (.of aD) (aG hp _)
def cM (K:aa):R2:=fun x y H Q=>match x,y with
 | .int i, .int j=>Q (.int (i+j)) H
 | .str i, .str j=>i.length+j.length<=ba/\Q (.str (i++j)) H
 | .ref a, .ref b=>aLo (.ref a) (.ref b) H Q\/aJa K (.ref a) (.ref b) H Q
 | _,_=>False
theorem aHs:OpR X (kd .Add) (cM X.K):=by
 intro pins s σ H x y v u Q I rx ry h
 unfold cM at h
 split at h
 ·exact aIc (X:=X) pins s σ H _ _ v u Q I rx ry ⟨_,_,rfl,rfl,h⟩
 ·exact aBZ (X:=X) pins s σ H _ _ v u Q I rx ry ⟨_,_,rfl,rfl,h.1,h.2⟩
 ·rcases h with h | h
  ·exact aIt (X:=X) pins s σ H _ _ v u Q I rx ry h
  ·exact aHp (X:=X) pins s σ H _ _ v u Q I rx ry h
 ·exact h.elim
theorem aLd:IxR X (fun x y H Q=>aJG X.K x y H Q\/aJY X.K x y H Q):=aGp.or aIY
theorem Vals.of_get:∀ {xs:List V} {us:List Value},xs.length=us.length->(∀ (i:Nat) x u,xs[i]?=some x->us[i]?=some u->RelV x u)->Vals xs us
 | [],[],_,_ => .nil
 | [],_ :: _,h,_=>by simp at h
 | _ :: _,[],h,_=>by simp at h
 | x :: xs,u :: us,h,hr => .cons (hr 0 x u rfl rfl) (Vals.of_get (by simpa using h) fun i y w h1 h2=>hr (i+1) y w (by simpa using h1) (by simpa using h2))
def aHi (lo hi:Int):List Int:=(av (hi - lo).toNat).map fun i:Nat=>lo+(i:Int)
theorem vS (hc:X.calm=true):CallR X (.type "list") (fun vs H Q=>∃ (a:Addr) (lo hi:Int),vs=[.ref a]/\H a=some (.rng lo hi)/\(-(2 ^ 62)<=lo/\lo<2 ^ 62/\-(2 ^ 62)<=hi/\hi<2 ^ 62/\hi - lo<=1000000) /\
  ∀ p,H p=none->Q (.ref p) (upd H p (.lst ((aHi lo hi).map V.int)))):=by
 intro pins s σ H xs us Q I r ⟨a,lo,hi,e,ha,⟨b1,b2,b3,b4,b5⟩,q⟩
 subst e
 obtain⟨u,rfl,ru⟩:=r.one
 obtain rfl:u=Value.ref a:=ru
 obtain⟨t,u,v,hr⟩:=I.hok a _ ha
 refine call_list_range (a:=lo) (b:=hi) (c:=1) (n:=(hi - lo).toNat) (I.ok.hd hc) hr (small_one b1 b2 b3 b4) (by rw[rangeSize_one];split <;> omega) (by omega) fun h' tk acc' c' hk hS hI=>?_
 refine ⟨.ref s.heap.objs.size,_,I.laid (a:=s.heap.objs.size) (o := .lst ((aHi lo hi).map V.int)) hk (bg _) ⟨?_,acc'.toList,c',?_,by simpa using hS⟩,rfl,q _ (I.hok.fresh (bg _))⟩
 ·rw[af];unfold aHi;rw[af,dy]
  exact dg (show (hi - lo).toNat<=1000000 by omega) (by decide)
 ·refine Vals.of_get ?_ fun i x u hx hu=>?_
  ·have el:acc'.toList.length=(hi - lo).toNat:=by rw[<- hI.1];simp
   rw[af,el];unfold aHi;rw[af,dy]
  ·obtain⟨t,rfl⟩:=hI.2 i u (by simpa using hu)
   rw[cf] at hx
   unfold aHi at hx
   rw[cf] at hx
   cases hi':(av (hi - lo).toNat)[i]? with
   | none=>rw[hi'] at hx;cases hx
   | some j=>
    rw[hi'] at hx
    have:j=i:=by
     obtain⟨h1,h2⟩:=ai.mp hi'
     simpa using h2.symm
    subst this
    obtain rfl:V.int (lo+(j:Int))=x:=by simpa using hx
    exact ⟨t,by rw[ot]⟩
theorem wH (hc:X.calm=true):CallR X (.type "list") (fun vs H Q=>(∃ p ys,vs=[.ref p]/\(SqL X.K H p ys\/SqT X.K H p ys)/\∀ l,H l=none->Q (.ref l) (upd H l (.lst ys))) \/
  ∃ (a:Addr) (lo hi:Int),vs=[.ref a]/\H a=some (.rng lo hi)/\(-(2 ^ 62)<=lo/\lo<2 ^ 62/\-(2 ^ 62)<=hi/\hi<2 ^ 62/\hi - lo<=1000000)/\∀ p,H p=none->Q (.ref p) (upd H p (.lst ((aHi lo hi).map V.int)))):=zL.or (vS hc)
def lG (K:aa) (tl:TE):TI:=fun σ H R=>tl σ H fun x H1=>∃ a,x = .ref a/\(((∃ xs,SqL K H1 a xs)/\R (Itl K a) H1)\/((∃ xs,SqT K H1 a xs)/\R (Itt K a) H1))
theorem aJc {tg l:Expr}{tl:TE}(hl:PE X l tl):PI X tg l (lG X.K tl):=by
 intro pins s σ H R I h
 refine thn (hl pins s σ H _ I h) fun v s1 ⟨x,H1,I1,r1,q1⟩=>?_
 obtain⟨a,e,q⟩:=q1
 subst e
 cases r1
 rcases q with ⟨⟨xs,hq⟩,q⟩ | ⟨⟨xs,hq⟩,q⟩
 ·obtain⟨its,rv,p,hz⟩:=I1.list hq
  refine oz p.isList ?_
  refine ⟨s1.heap.objs.size,[s1.heap.objs.size],_,_,H1,rfl,I1.kept (t':=s1.toks) fun b o e=>aj _ e,aDD a _,⟨_,bh _ rfl,rfl,rfl⟩,fun b hb=>?_,q⟩
  have e:b=s1.heap.objs.size:=by simpa using hb
  subst e
  exact I1.fpOk (bg _) (I1.hok.fresh (bg _))
 ·obtain⟨its,rv,p,hz⟩:=I1.tuple hq
  refine sd (show s1.heap.IsTuple a its.toArray from p) ?_
  refine ⟨s1.heap.objs.size,[s1.heap.objs.size],_,_,H1,rfl,I1.kept (t':=s1.toks) fun b o e=>aj _ e,aCs a _,⟨_,bh _ rfl,rfl,rfl⟩,fun b hb=>?_,q⟩
  have e:b=s1.heap.objs.size:=by simpa using hb
  subst e
  exact I1.fpOk (bg _) (I1.hok.fresh (bg _))
end
structure Def (P:Program)(w:World)(K:aa)(mg:Str->Option Value)(base:Heap)(x:Str)(k:Nat)(ps:List Str)(sp:Sp):Prop where
 ex:∃ (f:Addr) (fd:FuncData),FnOk P w K mg base CX0 k f fd ps sp/\mg x=some (.ref f)/\bj K (.ref f)=true/\Binds K fd ps []
theorem Def.mono {P:Program}{w:World}{K:aa}{mg:Str->Option Value}{base:Heap}{x:Str}{j k:Nat}{ps:List Str}{sp:Sp}(D:Def P w K mg base x j ps sp)(h:j<=k):Def P w K mg base x k ps sp:=by
 obtain⟨f,fd,F,r⟩:=D.ex
 exact ⟨f,fd,F.mono h,r⟩
theorem aU {X:Cx}{x:Str}{k:Nat}{ps:List Str}{sp:Sp}{p pos:Pos}{e:Expr}{es:List Expr}{t:TA}(D:Def X.prog X.w X.K X.mg X.base x k ps sp)(hr:Room k X.A)(hg:Gl X x)(ha:PA X (e :: es) t)
  (hdb:(x == ("__debug__" : Str))=false:=by decide) (he:dz (e :: es) X.env=(false,eval e X.env) :: dz es X.env:=by rfl) (hpl:(rh pos (dz es X.env)).any (·.1)=false:=by rfl) :
  PE X (.Call (.Name x p) (e :: es) [] pos) (bG sp [] E0 t):=by
 obtain⟨f,fd,F,hm,hk,hb⟩:=D.ex
 exact aCX F hr hg hm hk hb .nil aJZ ha hdb he hpl
def SameX (acc:Addr) (H H':Hp):Prop:=∀ b o,b≠acc->H b=some o->H' b=some o
theorem SameX.refl (acc:Addr)(H:Hp):SameX acc H H:=fun _ _ _ h=>h
theorem SameX.trans {acc:Addr}{H H1 H2:Hp}(a:SameX acc H H1)(b:SameX acc H1 H2):SameX acc H H2:=fun c o n h=>b c o n (a c o n h)
theorem Same.x {acc:Addr}{H H':Hp}(e:Same H H'):SameX acc H H':=fun b o _ h=>e b o h
theorem SameX.put {acc:Addr}{H:Hp}(o:HO):SameX acc H (upd H acc o):=fun b u n h=>by rw[bA n];exact h
def Agree (vars:List Nat) (σ σ':St):Prop:=∀ k,k∉vars->σ'[k]?=σ[k]?
theorem Agree.refl (vars:List Nat)(σ:St):Agree vars σ σ:=fun _ _=>rfl
theorem Agree.trans {vars:List Nat}{σ σ1 σ2:St}(a:Agree vars σ σ1)(b:Agree vars σ1 σ2):Agree vars σ σ2:=fun k h=>(b k h).trans (a k h)
theorem Agree.set {vars:List Nat}{σ:St}{j:Nat}(h:j∈vars)(v:Option V):Agree vars σ (σ.set j v):=fun k hk=>dn (fun e:j=k=>hk (by rw[<- e];exact h))
theorem iJ {σ:St}{j:Nat}{v:Option V}(h:j<σ.length):(σ.set j v)[j]?=some v:=fw h
def Emits (vars:List Nat) (tb:TS) (acc:Addr) (σ:St) (H:Hp) (L:List V):Prop:=
 ∀ (D:lO) (pre:List V),H acc=some (.lst pre)->pre.length+L.length<=1000000->(∀ σ' H',σ'.length=σ.length->Agree vars σ σ'->SameX acc H H'->H' acc=some (.lst (pre++L))->D.nx σ' H')->tb D σ H
theorem dA {vars:List Nat}{te:TE}{acc:Addr}{σ:St}{H:Hp}{x:V}(h:∀ Q:VK,(∀ H',Same H H'->Q x H')->te σ H Q):Emits vars (dI te acc) acc σ H [x]:=by
 intro D pre ha hz hd
 refine h _ fun H' e=>⟨pre,e _ _ ha,?_,hd σ _ rfl (Agree.refl _ _) (e.x.trans (SameX.put _)) aD⟩
 exact bq (show pre.length<=1000000 by simp at hz;omega) (by decide)
theorem aT {α:Type}(f:Nat->List α)(i:Nat):(av (i+1)).flatMap f=(av i).flatMap f++f i:=by
 rw[qq,List.flatMap_append]
 simp
theorem dC {α:Type}(f:Nat->List α){i n:Nat}(h:i<=n):((av i).flatMap f).length<=((av n).flatMap f).length:=by
 induction h with
 | refl=>exact bg _
 | step _ ih=>rw[aT,az];omega
theorem kQ {vars:List Nat}{tb:TS}{acc:Addr}{σ:St}{H:Hp}{lo:Int}{n j:Nat}{L:Nat->List V}(hj:j∈vars)(hjl:j<σ.length)
  (h:∀ i σ' H',i<n->σ'.length=σ.length->Agree vars σ σ'->σ'[j]?=some (some (.int (lo+(i:Int))))->SameX acc H H'->(∃ pre,H' acc=some (.lst pre))->Emits vars tb acc σ' H' (L i)) :
  Emits vars (iO (Itr lo n) (aK j) tb) acc σ H ((av n).flatMap L):=by
 intro D pre ha hz hd
 refine dP (lo:=lo) (n:=n) (g:=aK j) (D:=D) (fun i σ' H'=>i<=n/\σ'.length=σ.length/\Agree vars σ σ'/\SameX acc H H'/\H' acc=some (.lst (pre++(av i).flatMap L))) ⟨ay _,rfl,Agree.refl _ _,SameX.refl _ _,by simpa using ha⟩ (fun i σ1 H1 hi ⟨_,hl1,ag1,sx1,h1⟩=>?_) fun σ1 H1 ⟨_,hl1,ag1,sx1,h1⟩=>hd σ1 H1 hl1 ag1 sx1 h1
 have hle:=dC L (show i+1<=n from hi)
 rw[aT,az] at hle
 have fin:∀ σ' H',σ'.length=σ1.length->Agree vars (σ1.set j (some (.int (lo+(i:Int))))) σ'->SameX acc H1 H'->H' acc=some (.lst ((pre++(av i).flatMap L)++L i)) ->
   (i+1<=n/\σ'.length=σ.length/\Agree vars σ σ'/\SameX acc H H'/\H' acc=some (.lst (pre++(av (i+1)).flatMap L))):=fun σ' H' hl ag sx h2=>
  ⟨hi,hl.trans hl1,(ag1.trans (Agree.set hj _)).trans ag,sx1.trans sx,by rw[h2,aT,ip]⟩
 refine h i (σ1.set j (some (.int (lo+(i:Int))))) H1 hi (by rw[cv];exact hl1) (ag1.trans (Agree.set hj _)) (iJ (by omega)) sx1 ⟨_,h1⟩ _ _ h1 (by rw[az];omega) fun σ' H' hl ag sx h2=>fin σ' H' (hl.trans (cv ..)) ag sx h2
theorem zW {vars:List Nat}{ta:TA}{tb:TS}{acc:Addr}{σ:St}{H:Hp}{n j:Nat}{L:Nat->List V}(hj:j∈vars)(hjl:j<σ.length)(hn:n<=1000000)
  (hta:∀ Q:List V->Hp->Prop,(∀ H',Same H H'->Q [.int (n:Int)] H')->ta σ H Q)
  (h:∀ i σ' H',i<n->σ'.length=σ.length->Agree vars σ σ'->σ'[j]?=some (some (.int (i:Int)))->SameX acc H H'->(∃ pre,H' acc=some (.lst pre))->Emits vars tb acc σ' H' (L i)) :
  Emits vars (tK (kD ta) (aK j) tb) acc σ H ((av n).flatMap L):=by
 intro D pre ha hz hd
 refine hta _ fun H' e=>⟨(n:Int),rfl,by omega,by omega,?_⟩
 rw[bz]
 refine kQ (L:=L) hj hjl (fun i σ' H2 hi hl ag hs sx hp=>h i σ' H2 hi hl ag (by rw[hs];simp) (e.x.trans sx) hp) D pre (e _ _ ha) hz fun σ' H2 hl ag sx h2=>hd σ' H2 hl ag (e.x.trans sx) h2
theorem gF {K:aa}{vars:List Nat}{tb:TS}{acc a:Addr}{σ:St}{H:Hp}{xs:List V}{j:Nat}{L:Nat->List V}(hj:j∈vars)(hjl:j<σ.length)(hs:∀ H',SameX acc H H'->SqL K H' a xs)
  (h:∀ i x σ' H',xs[i]?=some x->σ'.length=σ.length->Agree vars σ σ'->σ'[j]?=some (some x)->SameX acc H H'->(∃ pre,H' acc=some (.lst pre))->Emits vars tb acc σ' H' (L i)) :
  Emits vars (iO (Itl K a) (aK j) tb) acc σ H ((av xs.length).flatMap L):=by
 intro D pre ha hz hd
 refine cX (K:=K) (a:=a) (xs:=xs) (g:=aK j) (D:=D) (fun i σ' H'=>i<=xs.length/\σ'.length=σ.length/\Agree vars σ σ'/\SameX acc H H'/\H' acc=some (.lst (pre++(av i).flatMap L))) ⟨ay _,rfl,Agree.refl _ _,SameX.refl _ _,by simpa using ha⟩ (fun i σ1 H1 _ ⟨_,_,_,sx1,_⟩=>hs H1 sx1) (fun i x σ1 H1 hx ⟨_,hl1,ag1,sx1,h1⟩=>?_) fun σ1 H1 ⟨_,hl1,ag1,sx1,h1⟩=>hd σ1 H1 hl1 ag1 sx1 h1
 have hi:i<xs.length:=(ai.mp hx).1
 have hle:=dC L (show i+1<=xs.length from hi)
 rw[aT,az] at hle
 have fin:∀ σ' H',σ'.length=σ1.length->Agree vars (σ1.set j (some x)) σ'->SameX acc H1 H'->H' acc=some (.lst ((pre++(av i).flatMap L)++L i)) ->
   (i+1<=xs.length/\σ'.length=σ.length/\Agree vars σ σ'/\SameX acc H H'/\H' acc=some (.lst (pre++(av (i+1)).flatMap L))):=fun σ' H' hl ag sx h2=>
  ⟨hi,hl.trans hl1,(ag1.trans (Agree.set hj _)).trans ag,sx1.trans sx,by rw[h2,aT,ip]⟩
 refine h i x (σ1.set j (some x)) H1 hx (by rw[cv];exact hl1) (ag1.trans (Agree.set hj _)) (iJ (by omega)) sx1 ⟨_,h1⟩ _ _ h1 (by rw[az];omega) fun σ' H' hl ag sx h2=>fin σ' H' (hl.trans (cv ..)) ag sx h2
theorem aEK {K:aa}{vars:List Nat}{tb:TS}{acc a:Addr}{σ:St}{H:Hp}{xs:List V}{j:Nat}{L:Nat->List V}(hj:j∈vars)(hjl:j<σ.length)(hs:∀ H',SameX acc H H'->SqT K H' a xs)
  (h:∀ i x σ' H',xs[i]?=some x->σ'.length=σ.length->Agree vars σ σ'->σ'[j]?=some (some x)->SameX acc H H'->(∃ pre,H' acc=some (.lst pre))->Emits vars tb acc σ' H' (L i)) :
  Emits vars (iO (Itt K a) (aK j) tb) acc σ H ((av xs.length).flatMap L):=by
 intro D pre ha hz hd
 refine aGy (K:=K) (a:=a) (xs:=xs) (g:=aK j) (D:=D) (fun i σ' H'=>i<=xs.length/\σ'.length=σ.length/\Agree vars σ σ'/\SameX acc H H'/\H' acc=some (.lst (pre++(av i).flatMap L))) ⟨ay _,rfl,Agree.refl _ _,SameX.refl _ _,by simpa using ha⟩ (fun i σ1 H1 _ ⟨_,_,_,sx1,_⟩=>hs H1 sx1) (fun i x σ1 H1 hx ⟨_,hl1,ag1,sx1,h1⟩=>?_) fun σ1 H1 ⟨_,hl1,ag1,sx1,h1⟩=>hd σ1 H1 hl1 ag1 sx1 h1
 have hi:i<xs.length:=(ai.mp hx).1
 have hle:=dC L (show i+1<=xs.length from hi)
 rw[aT,az] at hle
 have fin:∀ σ' H',σ'.length=σ1.length->Agree vars (σ1.set j (some x)) σ'->SameX acc H1 H'->H' acc=some (.lst ((pre++(av i).flatMap L)++L i)) ->
   (i+1<=xs.length/\σ'.length=σ.length/\Agree vars σ σ'/\SameX acc H H'/\H' acc=some (.lst (pre++(av (i+1)).flatMap L))):=fun σ' H' hl ag sx h2=>
  ⟨hi,hl.trans hl1,(ag1.trans (Agree.set hj _)).trans ag,sx1.trans sx,by rw[h2,aT,ip]⟩
 refine h i x (σ1.set j (some x)) H1 hx (by rw[cv];exact hl1) (ag1.trans (Agree.set hj _)) (iJ (by omega)) sx1 ⟨_,h1⟩ _ _ h1 (by rw[az];omega) fun σ' H' hl ag sx h2=>fin σ' H' (hl.trans (cv ..)) ag sx h2
theorem cS:d9 "len" = some (.builtin "len"):=by decide +kernel
theorem uL:d9 "all" = some (.builtin "all"):=by decide +kernel
theorem aGl:d9 "min" = some (.builtin "min"):=by decide +kernel
theorem aJu:d9 "sum" = some (.builtin "sum"):=by decide +kernel
theorem jZ:d9 "isinstance" = some (.builtin "isinstance"):=by decide +kernel
theorem xW:d9 "sorted" = some (.builtin "sorted"):=by decide +kernel
theorem gX:d9 "tuple" = some (.type "tuple"):=by decide +kernel
theorem vT:d9 "list" = some (.type "list"):=by decide +kernel
theorem aGn:d9 "int" = some (.type "int"):=by decide +kernel
theorem aHw:d9 "bool" = some (.type "bool"):=by decide +kernel
structure Blt (mg:Str->Option Value):Prop where
 len:mg "len" = none
 all:mg "all" = none
 min:mg "min" = none
 max:mg "max" = none
 sum:mg "sum" = none
 isi:mg "isinstance" = none
 sorted:mg "sorted" = none
 tuple:mg "tuple" = none
 list:mg "list" = none
 range:mg "range" = none
 int:mg "int" = none
 bool:mg "bool" = none
end L2
namespace L2
open PySem
theorem aKR {A:Around}{k:Nat}(hr:Room k A):A.units+100<cLine:=by have:=hr.un;omega
theorem aKG {A:Around}{k:Nat}(hr:Room k A):A.units+101<cLine:=by have:=hr.un;omega
end L2
namespace L2
open PySem PySem.Spec PyProof.Rows
section
variable {X:Cx}{K:aa}
theorem aQ (hK:X.K=K):IxR X (fun x y H Q=>aJG K x y H Q\/aJY K x y H Q):=by subst hK;exact aLd
theorem bR (hK:X.K=K):OpR X (kd .Add) (cM K):=by subst hK;exact aHs
theorem fG {k:Nat}(hK:X.K=K)(hr:Room k X.A):OpR X (gj .Eq) (iX K):=by subst hK;exact aIw (aKR hr)
theorem nC {k:Nat}(hK:X.K=K)(hr:Room k X.A):OpR X (gj .NotEq) (aBK K):=by subst hK;exact aJt (aKG hr)
theorem aCL (hK:X.K=K):OpR X (gj .In) (rIn K false):=by subst hK;exact aEe
theorem aDR (hK:X.K=K):OpR X (gj .NotIn) (rIn K true):=by subst hK;exact pF
theorem jT (hK:X.K=K):CallR X (.builtin "isinstance") (aGP K):=by subst hK;exact aFq
def jM (K:aa):List V->Hp->VK->Prop:=fun xs H Q=>∃ p ys,xs=[.ref p]/\(SqL K H p ys\/SqT K H p ys)/\Q (.int ys.length) H
theorem aX (hK:X.K=K):CallR X (.builtin "len") (jM K):=by subst hK;exact aAa
def aGH (K:aa):List V->Hp->VK->Prop:=fun vs H Q=>∃ (a:Addr) (bs:List Bool),vs=[.ref a]/\Sq K H a (bs.map V.bl)/\Q (.bl (bs.all id)) H
theorem iG (hK:X.K=K)(hc:X.calm=true):CallR X (.builtin "all") (aGH K):=by subst hK;exact aEH hc
def aLl (K:aa):List V->Hp->VK->Prop:=fun vs H Q=>∃ (a:Addr) (ns:List Int),vs=[.ref a]/\Sq K H a (ns.map V.int)/\Q (.int ns.sum) H
theorem aEq (hK:X.K=K)(hc:X.calm=true):CallR X (.builtin "sum") (aLl K):=by subst hK;exact aFl hc
def vR:List V->Hp->VK->Prop:=fun xs H Q=>∃ i j:Int,xs=[.int i, .int j]/\Q (.int (if j<i then j else i)) H
theorem uU (hc:X.calm=true):CallR X (.builtin "min") vR:=aDM hc
def pK (K:aa):List V->Hp->VK->Prop:=fun xs H Q=>∃ p ys,xs=[.ref p]/\((SqL K H p ys/\∀ l,H l=none->Q (.ref l) (upd H l (.tup ys)))\/(SqT K H p ys/\Q (.ref p) H))
theorem gG (hK:X.K=K):CallR X (.type "tuple") (pK K):=by subst hK;exact vJ
def aCg (K:aa):List V->Hp->VK->Prop:=fun vs H Q=>(∃ p ys,vs=[.ref p]/\(SqL K H p ys\/SqT K H p ys)/\∀ l,H l=none->Q (.ref l) (upd H l (.lst ys))) \/
  ∃ (a:Addr) (lo hi:Int),vs=[.ref a]/\H a=some (.rng lo hi)/\(-(2 ^ 62)<=lo/\lo<2 ^ 62/\-(2 ^ 62)<=hi/\hi<2 ^ 62/\hi - lo<=1000000)/\∀ p,H p=none->Q (.ref p) (upd H p (.lst ((aHi lo hi).map V.int)))
theorem kP (hK:X.K=K)(hc:X.calm=true):CallR X (.type "list") (aCg K):=by subst hK;exact wH hc
theorem cG {tg l:Expr}{tl:TE}(hK:X.K=K)(hl:PE X l tl):PI X tg l (lG K tl):=by subst hK;exact aJc hl
theorem cW {es:List Expr}{k:Nat}{t:TGs}{n:Nat}{pos:Pos}(hK:X.K=K)(hc:X.calm=true)(h:PGs X es t)(hn:(oq es X.env).length=n:=by rfl)(hst:(oq es X.env).findIdx? (·.1)=none:=by rfl):PG X (.Tuple es k pos) (pE K n t):=by
 subst hK;exact aJy hc h hn hst
end
abbrev yLt:R2:=rI0 fun i j => .bl (decide (i<j))
abbrev yLe:R2:=rI0 fun i j => .bl (decide (i<=j))
abbrev yGt:R2:=rI0 fun i j => .bl (decide (j<i))
abbrev yGe:R2:=rI0 fun i j => .bl (decide (j<=i))
abbrev pV:R2:=rI0 fun i j => .int (i - j)
abbrev aAG:R2:=rI (fun _ j=>0<j) fun i j => .int (i % j)
abbrev aFu:R2:=rI aLC fun i j => .int (i ^ j.toNat)
abbrev aAf:V->Hp->VK->Prop:=rU fun i => .int (-i)
abbrev bH (K:aa):R2:=fun x y H Q=>aJG K x y H Q\/aJY K x y H Q
end L2
namespace L2
open PySem
def pY (T:List (List Int)):Dt := .tup (T.map fun r => .tup (r.map .int))
structure Quad (T:List (List Int))(n:Nat):Prop where
 len:T.length=n
 row:∀ r∈T,r.length=n
def at2 (T:List (List Int)) (i j:Nat):Int:=(T.getD i []).getD j 0
section
variable {K:aa}{H:Hp}{T:List (List Int)}{n:Nat}
theorem ShL.rows:∀ {T:List (List Int)} {rs:List V},ShL K H (T.map fun r=>Dt.tup (r.map Dt.int)) rs->rs.length=T.length/\∀ (i:Nat) (row:List Int),T[i]?=some row->∃ b,rs[i]?=some (.ref b)/\SqT K H b (row.map V.int)
 | [],rs,h=>by
  have h:rs=[]:=h
  subst h
  exact ⟨rfl,fun i row e=>by simp at e⟩
 | r :: T,rs,⟨x,rr,h1,⟨b,xs,h2,h3,h4⟩,h5⟩=>by
  obtain⟨e,g⟩:=ShL.rows h5
  subst h1
  refine ⟨by rw[dm,dm,e],fun i row er=>?_⟩
  cases i with
  | zero=>
   have:r=row:=by simpa using er
   subst this
   exact ⟨b,by rw[h2];rfl,by rw[<- ShL.of_ints h4];exact h3⟩
  | succ i=>exact g i row (by simpa using er)
theorem Sh.tab {v:V}(h:Sh K H (pY T) v):∃ a rs,v = .ref a/\SqT K H a rs/\rs.length=T.length/\∀ (i:Nat) (row:List Int),T[i]?=some row->∃ b,rs[i]?=some (.ref b)/\SqT K H b (row.map V.int):=by
 obtain⟨a,rs,e,hq,hl⟩:=h
 obtain⟨e2,g⟩:=ShL.rows hl
 exact ⟨a,rs,e,hq,e2,g⟩
theorem ShL.of_rows:∀ {T:List (List Int)} {rs:List V},rs.length=T.length->(∀ (i:Nat) (row:List Int),T[i]?=some row->∃ b,rs[i]?=some (.ref b)/\SqT K H b (row.map V.int))->ShL K H (T.map fun r=>Dt.tup (r.map Dt.int)) rs
 | [],rs,h,_=>uv.mp h
 | r :: T,[],h,_=>by simp at h
 | r :: T,x :: rs,h,g=>by
  obtain⟨b,e,hq⟩:=g 0 r rfl
  have e:x = .ref b:=by simpa using e
  exact ⟨x,rs,rfl,⟨b,_,e,hq,ShL.ints r⟩,ShL.of_rows (by simpa using h) fun i row er=>by
   obtain⟨c,e2,q2⟩:=g (i+1) row (by simpa using er)
   exact ⟨c,by simpa using e2,q2⟩⟩
theorem Quad.get (q:Quad T n){i:Nat}(h:i<n):∃ row,T[i]?=some row/\row.length=n/\T.getD i []=row:=by
 have hi:i<T.length:=by rw[q.len];exact h
 refine ⟨T[i],ah hi,q.row _ (jw hi),?_⟩
 rw[ao,ah hi];rfl
theorem aAK {xs:List Int}{j:Nat}(h:j<xs.length):xs[j]?=some (xs.getD j 0):=by
 rw[ao,ah h];rfl
theorem ixT {p:Addr}{xs:List V}{j:Nat}{v:V}{Q:VK}(h:SqT K H p xs)(hj:xs[j]?=some v)(q:Q v H):bH K (.ref p) (.int (j:Int)) H Q := .inr ⟨p,xs,j,v,rfl,rfl,h,aDA hj,q⟩
theorem ixL {p:Addr}{xs:List V}{j:Nat}{v:V}{Q:VK}(h:SqL K H p xs)(hj:xs[j]?=some v)(q:Q v H):bH K (.ref p) (.int (j:Int)) H Q := .inl ⟨p,xs,j,v,rfl,rfl,h,aDA hj,q⟩
theorem aGC {v:V}{i:Nat}{Q:VK}(hS:Sh K H (pY T) v)(hq:Quad T n)(hi:i<n)(q:∀ b,SqT K H b ((T.getD i []).map V.int)->Q (.ref b) H):bH K v (.int (i:Int)) H Q:=by
 obtain⟨a,rs,rfl,ha,hl,g⟩:=hS.tab
 obtain⟨row,e1,e2,e3⟩:=hq.get hi
 obtain⟨b,hb,hs⟩:=g i row e1
 exact ixT ha hb (q b (by rw[e3];exact hs))
theorem sP {σ:St}{t si sj:Nat}{v:V}{i j:Nat}{Q:VK}(ht:σ[t]?=some (some v))(hi:σ[si]?=some (some (.int (i:Int))))(hj:σ[sj]?=some (some (.int (j:Int))))(hS:Sh K H (pY T) v)(hq:Quad T n)(li:i<n)(lj:j<n)
  (q:Q (.int (at2 T i j)) H):tOp (bH K) (tOp (bH K) (aF t) (aF si)) (aF sj) σ H Q:=by
 refine ⟨_,ht,_,hi,aGC hS hq li fun b hb=>⟨_,hj,ixT hb ?_ q⟩⟩
 obtain⟨row,e1,e2,e3⟩:=hq.get li
 rw[cf,aAK (by rw[e3];omega)]
 rfl
end
theorem cT {acc:Addr}{H H2:Hp}{o:HO}(hacc:H acc=none)(sx:SameX acc (upd H acc o) H2):Same H H2:=fun b u e=>sx b u (bO e hacc) (by rw[bA (bO e hacc)];exact e)
theorem Emits.mono {vars vars':List Nat}{tb:TS}{acc:Addr}{σ:St}{H:Hp}{L:List V}(h:Emits vars tb acc σ H L)(hs:∀ k∈vars,k∈vars'):Emits vars' tb acc σ H L:=
 fun D pre ha hz hd=>h D pre ha hz fun σ' H' hl ag sx h2=>hd σ' H' hl (fun k hk=>ag k fun z=>hk (hs k z)) sx h2
theorem Emits.cast {vars:List Nat}{tb:TS}{acc:Addr}{σ:St}{H:Hp}{L L':List V}(h:Emits vars tb acc σ H L)(e:L=L'):Emits vars tb acc σ H L':=e ▸ h
theorem cA (vars:List Nat)(L:List V){g:TG}{J:It}{tb:TS}{acc:Addr}{σ:St}{H:Hp}{D:lO}(ha:H acc=none)(hz:L.length<=1000000)(h:Emits vars (iO J g tb) acc σ (upd H acc (.lst [])) L)
  (q:∀ σ' H',Same H H'->H' acc=some (.lst L)->D.nx σ' H'):iO J g tb D σ (upd H acc (.lst [])):=
 h _ [] aD (by simpa using hz) fun σ' H' _ _ sx h2=>q σ' H' (cT ha sx) (by simpa using h2)
theorem fP {α:Type}(f:Nat->List α)(c:Nat):∀ n,(∀ i,i<n->(f i).length<=c)->((av n).flatMap f).length<=n*c
 | 0,_=>by simp
 | n+1,h=>by
  rw[aT,az,zh,Nat.one_mul]
  have:=fP f c n fun i hi=>h i (by omega)
  have:=h n (by omega)
  omega
theorem pD {α β:Type}(g:α->β)(f:Nat->List α)(l:List Nat):(l.flatMap f).map g=l.flatMap fun i=>(f i).map g:=by
 induction l with
 | nil=>rfl
 | cons x r ih=>rw[km,cz,ih,km]
theorem rE {α:Type}(p:α->Bool)(f:Nat->List α)(l:List Nat):(l.flatMap f).all p=l.all fun i=>(f i).all p:=by
 induction l with
 | nil=>rfl
 | cons x r ih=>rw[km,List.all_append,ih,nk]
section
variable {vars:List Nat}{tb:TS}{acc a:Addr}{σ:St}{H:Hp}{j:Nat}{D:lO}{K:aa}
theorem aDw {lo:Int}{n:Nat}(R:Nat->List V->Hp->Prop)(hj:j∈vars)(hjl:j<σ.length)(h0:R 0 [] (upd H acc (.lst [])))(ha:H acc=none)
  (h:∀ i σ' H' L (D:lO),i<n->σ'.length=σ.length->Agree vars σ σ'->σ'[j]?=some (some (.int (lo+(i:Int))))->Same H H'->H' acc=some (.lst L)->R i L H' ->
   (∀ σ'' H'' L',σ''.length=σ.length->Agree vars σ σ''->Same H H''->H'' acc=some (.lst L')->R (i+1) L' H''->D.nx σ'' H'')->tb D σ' H')
  (q:∀ σ' H' L,Same H H'->H' acc=some (.lst L)->R n L H'->D.nx σ' H'):iO (Itr lo n) (aK j) tb D σ (upd H acc (.lst [])):=by
 refine dP (lo:=lo) (n:=n) (g:=aK j) (D:=D) (fun i σ' H'=>i<=n/\σ'.length=σ.length/\Agree vars σ σ'/\Same H H'/\∃ L,H' acc=some (.lst L)/\R i L H') ⟨ay _,rfl,Agree.refl _ _,aG ha _,[],aD,h0⟩ (fun i σ1 H1 hi ⟨_,hl1,ag1,sx1,L,h1,r1⟩=>?_) fun σ1 H1 ⟨_,_,_,sm,L,h1,r1⟩=>q σ1 H1 L sm h1 r1
 exact h i (σ1.set j (some (.int (lo+(i:Int))))) H1 L _ hi (by rw[cv];exact hl1) (ag1.trans (Agree.set hj _)) (iJ (by omega)) sx1 h1 r1 fun σ2 H2 L' hl2 ag2 sm2 h2 r2=>⟨hi,hl2,ag2,sm2,L',h2,r2⟩
theorem aBP {xs:List V}(R:Nat->List V->Hp->Prop)(hj:j∈vars)(hjl:j<σ.length)(h0:R 0 [] (upd H acc (.lst [])))(ha:H acc=none)(hs:∀ i L H',Same H H'->R i L H'->SqL K H' a xs)
  (h:∀ i x σ' H' L (D:lO),xs[i]?=some x->σ'.length=σ.length->Agree vars σ σ'->σ'[j]?=some (some x)->Same H H'->H' acc=some (.lst L)->R i L H' ->
   (∀ σ'' H'' L',σ''.length=σ.length->Agree vars σ σ''->Same H H''->H'' acc=some (.lst L')->R (i+1) L' H''->D.nx σ'' H'')->tb D σ' H')
  (q:∀ σ' H' L,Same H H'->H' acc=some (.lst L)->R xs.length L H'->D.nx σ' H'):iO (Itl K a) (aK j) tb D σ (upd H acc (.lst [])):=by
 refine cX (K:=K) (a:=a) (xs:=xs) (g:=aK j) (D:=D) (fun i σ' H'=>i<=xs.length/\σ'.length=σ.length/\Agree vars σ σ'/\Same H H'/\∃ L,H' acc=some (.lst L)/\R i L H') ⟨ay _,rfl,Agree.refl _ _,aG ha _,[],aD,h0⟩ (fun i σ1 H1 _ ⟨_,_,_,sm,L,_,r1⟩=>hs i L H1 sm r1) (fun i x σ1 H1 hx ⟨_,hl1,ag1,sx1,L,h1,r1⟩=>?_) fun σ1 H1 ⟨_,_,_,sm,L,h1,r1⟩=>q σ1 H1 L sm h1 r1
 have hi:i<xs.length:=(ai.mp hx).1
 exact h i x (σ1.set j (some x)) H1 L _ hx (by rw[cv];exact hl1) (ag1.trans (Agree.set hj _)) (iJ (by omega)) sx1 h1 r1 fun σ2 H2 L' hl2 ag2 sm2 h2 r2=>⟨hi,hl2,ag2,sm2,L',h2,r2⟩
end
structure Mat (H:Hp)(F:Addr)(ls:List Addr)(M:List (List Int)):Prop where
 top:H F=some (.lst (ls.map V.ref))
 len:ls.length=M.length
 row:∀ (i:Nat) (l:Addr) (r:List Int),ls[i]?=some l->M[i]?=some r->H l=some (.lst (r.map V.int))
 nd:ls.Nodup
 out:F∉ls
theorem Mat.same {H H':Hp}{F:Addr}{ls:List Addr}{M:List (List Int)}(m:Mat H F ls M)(e:Same H H'):Mat H' F ls M:=⟨e _ _ m.top,m.len,fun i l r a b=>e _ _ (m.row i l r a b),m.nd,m.out⟩
theorem Mat.keep {H H':Hp}{F:Addr}{ls:List Addr}{M:List (List Int)}(m:Mat H F ls M)(e:∀ b o,(b=F\/b∈ls)->H b=some o->H' b=some o):Mat H' F ls M:=
 ⟨e _ _ (.inl rfl) m.top,m.len,fun i l r a b=>e _ _ (.inr (bt a)) (m.row i l r a b),m.nd,m.out⟩
def xO (M:List (List Int)) (i j:Nat) (v:Int):List (List Int):=M.set i ((M.getD i []).set j v)
theorem jU {M:List (List Int)}{n i j:Nat}{v:Int}(q:Quad M n)(hi:i<n):Quad (xO M i j v) n:=by
 refine ⟨by unfold xO;rw[cv];exact q.len,fun r hr=>?_⟩
 unfold xO at hr
 rcases List.mem_or_eq_of_mem_set hr with h | h
 ·exact q.row r h
 ·obtain⟨row,e1,e2,e3⟩:=q.get hi
  rw[h,cv,e3];exact e2
theorem oC {M:List (List Int)}{n i j:Nat}{v:Int}(q:Quad M n)(hi:i<n)(hj:j<n)(a b:Nat):at2 (xO M i j v) a b=if a=i/\b=j then v else at2 M a b:=by
 obtain⟨row,e1,e2,e3⟩:=q.get hi
 unfold at2 xO
 by_cases ha:a=i
 ·subst ha
  have:(M.set a ((M.getD a []).set j v)).getD a []=(M.getD a []).set j v:=by
   rw[ao,fw (by rw[q.len];exact hi)];rfl
  rw[this,e3]
  by_cases hb:b=j
  ·subst hb
   rw[if_pos ⟨rfl,rfl⟩,ao,fw (by omega)];rfl
  ·rw[if_neg (fun z=>hb z.2),ao,dn (ig hb),<- ao]
 ·have:(M.set i ((M.getD i []).set j v)).getD a []=M.getD a []:=by
   rw[ao,dn (ig ha),<- ao]
  rw[this,if_neg (fun z=>ha z.1)]
theorem Mat.at {K:aa}{H:Hp}{F:Addr}{ls:List Addr}{M:List (List Int)}{n i:Nat}(m:Mat H F ls M)(q:Quad M n)(hi:i<n):∃ l,ls[i]?=some l/\(ls.map V.ref)[i]?=some (.ref l)/\H l=some (.lst ((M.getD i []).map V.int)):=by
 obtain⟨row,e1,e2,e3⟩:=q.get hi
 have hl:i<ls.length:=by rw[m.len,q.len];exact hi
 refine ⟨ls[i],ah hl,by rw[cf,ah hl];rfl,?_⟩
 rw[e3]
 exact m.row i _ row (ah hl) e1
theorem Mat.put {H:Hp}{F:Addr}{ls:List Addr}{M:List (List Int)}{n i j:Nat}{v:Int}{l:Addr}(m:Mat H F ls M)(q:Quad M n)(hi:i<n)(hl:ls[i]?=some l):Mat (upd H l (.lst (((M.getD i []).set j v).map V.int))) F ls (xO M i j v):=by
 have hm:l∈ls:=bt hl
 have hF:F≠l:=fun e=>m.out (e ▸ hm)
 refine ⟨by rw[bA hF];exact m.top,by unfold xO;rw[cv];exact m.len,fun a b r h1 h2=>?_,m.nd,m.out⟩
 by_cases ha:a=i
 ·subst ha
  rw[hl] at h1
  cases h1
  rw[aD]
  unfold xO at h2
  rw[fw (by rw[q.len];exact hi)] at h2
  cases h2
  rfl
 ·have hne:b≠l:=by
   intro e
   subst e
   obtain⟨i1,z1⟩:=ai.mp h1
   obtain⟨i2,z2⟩:=ai.mp hl
   exact ha ((m8 m.nd).mp (z1.trans z2.symm))
  rw[bA hne]
  unfold xO at h2
  rw[dn (ig ha)] at h2
  exact m.row a b r h1 h2
theorem aBM {K:aa}{H:Hp}{F:Addr}{ls:List Addr}{M:List (List Int)}{n i j t si sj:Nat}{σ:St}{Q:VK}(m:Mat H F ls M)(q:Quad M n)(ht:σ[t]?=some (some (.ref F)))(hi:σ[si]?=some (some (.int (i:Int))))(hj:σ[sj]?=some (some (.int (j:Int))))(li:i<n)(lj:j<n)
  (h:Q (.int (at2 M i j)) H):tOp (bH K) (tOp (bH K) (aF t) (aF si)) (aF sj) σ H Q:=by
 obtain⟨l,h1,h2,h3⟩:=m.at (K:=K) q li
 refine ⟨_,ht,_,hi,ixL (.of m.top) h2 ⟨_,hj,ixL (.of h3) ?_ h⟩⟩
 obtain⟨row,e1,e2,e3⟩:=q.get li
 rw[cf,aAK (by rw[e3];omega)]
 rfl
theorem aAs {K:aa}{H:Hp}{F:Addr}{ls:List Addr}{M:List (List Int)}{n i j t si sj:Nat}{σ:St}{v:Int}{N:St->Hp->Prop}(m:Mat H F ls M)(q:Quad M n)(ht:σ[t]?=some (some (.ref F)))(hi:σ[si]?=some (some (.int (i:Int))))(hj:σ[sj]?=some (some (.int (j:Int))))(li:i<n)(lj:j<n)
  (h:∀ l H',l∈ls->H'=upd H l (.lst (((M.getD i []).set j v).map V.int))->Mat H' F ls (xO M i j v)->N σ H'):oB (tOp (bH K) (aF t) (aF si)) (aF sj) fH (.int v) σ H N:=by
 obtain⟨l,h1,h2,h3⟩:=m.at (K:=K) q li
 obtain⟨row,e1,e2,e3⟩:=q.get li
 refine ⟨_,ht,_,hi,ixL (.of m.top) h2 ⟨_,hj,l,_,(j:Int),j,rfl,rfl,h3,?_,?_⟩⟩
 rotate_left
 ·rw[<- yu]
  exact h l _ (bt h1) rfl (m.put q li h1)
 rw[af,e3,e2]
 unfold ixN
 rw[if_pos (by omega),if_pos (by omega),bz]
theorem zK {K:aa}{σ:St}{H:Hp}{t n:Nat}{F:Addr}{ls:List Addr}{M:List (List Int)}{Q:VK}(ht:σ[t]?=some (some (.ref F)))(m:Mat H F ls M)(q:Quad M n)(hn:n<=100)(h:∀ p H',Same H H'->Sh K H' (pY M) (.ref p)->Q (.ref p) H') :
  tCB (pK K) (aC (dO [none] (lG K (aF t)) (aK 0) [] fun acc=>dI (tCB (pK K) (aC (aF 0) aO)) acc) aO) σ H Q:=by
 refine ⟨_,ht,F,rfl, .inl ⟨⟨_, .of m.top⟩,fun acc hacc=>?_⟩⟩
 have hlen:(ls.map V.ref).length=n:=by rw[af,m.len,q.len]
 refine aBP (vars:=[0]) (K:=K) (a:=F) (xs:=ls.map V.ref) (fun i L H'=>L.length=i/\∀ (j:Nat) (row:List Int),j<i->M[j]?=some row->∃ b,L[j]?=some (.ref b)/\H' b=some (.tup (row.map V.int))) (by decide) (by show 0<1;decide) ⟨rfl,fun j row hj=>absurd hj (lx _)⟩ hacc (fun i L H' sm _ => .of (sm _ _ m.top)) (fun i x σ1 H1 L D hx l1 ag1 s1 sm1 ha1 ⟨r1,r2⟩ hD=>?_) fun σ1 H1 L sm1 ha1 ⟨r1,r2⟩=>?_
 ·have hi:i<n:=by rw[<- hlen];exact (ai.mp hx).1
  have hil:i<ls.length:=by rw[m.len,q.len];exact hi
  obtain⟨row,e1,e2,e3⟩:=q.get hi
  have ex:x = .ref ls[i]:=by
   rw[cf,ah hil] at hx
   simpa using hx.symm
  subst ex
  have hrow:=m.row i _ row (ah hil) e1
  refine ⟨_,s1,ls[i],row.map V.int,rfl, .inl ⟨.of (sm1 _ _ hrow),fun p hp=>?_⟩⟩
  have hpa:p≠acc:=fun e=>by rw[e,ha1] at hp;cases hp
  refine ⟨L,by rw[bA (ig hpa)];exact ha1,bq (show L.length<=100 by omega) (by decide),?_⟩
  refine hD σ1 _ (L++[.ref p]) l1 ag1 (fun b o e=>?_) aD ⟨by rw[az,r1];rfl,fun j row' hj e=>?_⟩
  ·have hb:b≠acc:=bO e hacc
   rw[bA hb,bA (bO (sm1 _ _ e) hp)]
   exact sm1 _ _ e
  ·by_cases hji:j<i
   ·obtain⟨b,g1,g2⟩:=r2 j row' hji e
    refine ⟨b,by rw[dj (by omega)];exact g1,?_⟩
    have hb:b≠acc:=ne_of g2 ha1 (fun z=>nomatch z)
    rw[bA hb,bA (bO g2 hp)]
    exact g2
   ·have:j=i:=by omega
    subst this
    rw[e1] at e
    cases e
    refine ⟨p,by rw[da (by omega),r1];simp,?_⟩
    rw[bA hpa]
    exact aD
 ·refine ⟨acc,L,rfl, .inl ⟨.of ha1,fun p hp=>?_⟩⟩
  have sm2:Same H (upd H1 p (.tup L)):=sm1.trans (aG hp _)
  refine h p _ sm2 ⟨p,L,rfl, .of aD,ShL.of_rows (by rw[r1,hlen,q.len]) fun i row e=>?_⟩
  have hi:i<n:=by rw[<- q.len];exact (ai.mp e).1
  obtain⟨b,g1,g2⟩:=r2 i row (by omega) e
  exact ⟨b,g1, .of (by rw[bA (bO g2 hp)];exact g2)⟩
section
variable {K:aa}{H:Hp}
theorem ShL.take:∀ {ds:List Dt} {xs:List V} (n:Nat),ShL K H ds xs->ShL K H (ds.take n) (xs.take n)
 | _,_,0,_=>by rw[List.take_zero,List.take_zero];rfl
 | [],xs,n+1,h=>by rw[show xs=[] from h];rfl
 | d :: ds,_,n+1,⟨x,r,h1,h2,h3⟩=>⟨x,r.take n,by rw[h1];rfl,h2,ShL.take n h3⟩
end
theorem aJk {xs:List V}{t:Nat}(h:t<=xs.length):tJ xs none (some (t:Int))=xs.take t:=by
 unfold tJ HT.sIx
 simp only [bz]
 rw[if_neg (by omega),xc,qr h,Nat.sub_zero]
theorem aEG {xs:List V}{t:Nat}(h:t<=xs.length):tJ xs (some (t:Int)) none=xs.drop t:=by
 unfold tJ HT.sIx
 simp only [bz]
 rw[if_neg (by omega),qr h,vp (by rw[gv];omega)]
theorem aEy (ns:List Int)(lo hi:Option Int):∃ ms:List Int,tJ (ns.map V.int) lo hi=ms.map V.int/\ms.length<=ns.length:=by
 refine ⟨(ns.drop (HT.sIx ns.length 0 lo)).take (HT.sIx ns.length ns.length hi - HT.sIx ns.length 0 lo),?_,?_⟩
 ·unfold tJ
  rw[af,nq,uw]
 ·rw[df,gv];omega
end L2
namespace L2
open PySem PySem.Spec PyProof.Rows
section
variable {X:Cx}
theorem oA {prog:Program}{w:World}{A:Around}{E:Value->Shared->Prop}{s:Shared}{t sl:Addr}{items:Array Value}{vl vu:Value}{lo hi:Option Int}{Q:Value->Shared->Prop}(ht:IsTup s.heap t items)(hs:s.heap.IsSliceOf sl vl vu .none)(pl:IsPart vl lo)(pu:IsPart vu hi)
  (hw:HT.sIx items.size 0 lo=0/\HT.sIx items.size items.size hi=items.size) (h:Q (.ref t) s):wpAny (model prog w) A (yi (.ref t) (.ref sl)) Q E s:=by
 obtain⟨os,hos,hcs,hds⟩:=id hs
 have hTs:s.TypeIs (.ref sl) "slice":=⟨os,hos,hcs⟩
 unfold yi
 try with_reducible refine ft ?_
 first | refine ae (ak ?_) | skip
 refine ae (wpAny_sequenceKey ht.typeIs (by decide) ?_)
 refine ae (fg (name:=j4 "__getitem__") ht.typeIs gg
  (e8 gg ht.typeIs xk ?_ (args_tuple_getitem _ _)))
 show wpAny _ _ (mw (.ref t) >>= _) _ _ s
 refine ae (tupleItemsOf_ ht ?_)
 refine ae (rn hTs ?_)
 rw[if_pos (by decide)]
 refine ae (HT.sliceApplied_gen hs pl pu ?_)
 rw[hw.1,hw.2]
 have hyes:((((0:Nat):Int) == 0 && (1:Int) == 1 && (items.size - 0) == items.size)=true):=by simp
 show wpAny _ _ (if (((0:Nat):Int) == 0 && (1:Int) == 1 && (items.size - 0) == items.size)=true then _ else _) _ _ s
 rw[if_pos hyes]
 unfold Builtin.Tuple.tupleIsExact
 refine ae (ae (rn ht.typeIs (ak ?_)))
 rw[if_pos (show (Value.type "tuple" == Value.type "tuple")=true by rfl)]
 exact ae (mj (ak ⟨_,rfl,ak h⟩))
def aLr (K:aa):V->Option Int->Option Int->Hp->VK->Prop:=fun x lo hi H Q=>∃ a xs,x = .ref a/\SqT K H a xs/\∀ p H',Same H H'->SqT K H' p (tJ xs lo hi)->Q (.ref p) H'
theorem aGQ:SlR X (aLr X.K):=by
 intro pins s σ H x v vl vu lo hi sl Q I rx hs pl pu h
 obtain⟨a,xs,rfl,hx,q⟩:=h
 by_cases hw:HT.sIx xs.length 0 lo=0/\HT.sIx xs.length xs.length hi=xs.length
 ·obtain rfl:v=Value.ref a:=rx
  obtain⟨its,rv,p,hz⟩:=I.tuple hx
  have hl:=rv.length
  have ec:tJ xs lo hi=xs:=by unfold tJ;rw[hw.1,hw.2,xc,Nat.sub_zero,fq]
  refine ⟨"tuple",_,gg.lookup,p.typeIs,?_⟩
  refine oA p hs pl pu (by simp only [aq,<- hl];exact hw) ?_
  exact ⟨.ref a,H,I,rfl,q a H (Same.refl H) (by rw[ec];exact hx)⟩
 ·exact aJf (X:=X) pins s σ H (.ref a) v vl vu lo hi sl Q I rx hs pl pu ⟨a,xs,rfl,hx,hw,fun p hp=>q p _ (aG hp _) (.of aD)⟩
abbrev wI (K:aa):V->Option Int->Option Int->Hp->VK->Prop:=fun x lo hi H Q=>aLA K x lo hi H Q\/aLr K x lo hi H Q
theorem qD {K:aa}(hK:X.K=K):SlR X (wI K):=by subst hK;exact aHn.or aGQ
end
section
variable {prog:Program}{w:World}{A:Around}{E:Value->Shared->Prop}{s:Shared}
theorem aBX {l:Addr}{ob:Obj}{n:Nat}{T:String}{us:List Value}{Q:List Value->Shared->Prop}(e0:s.heap.get? l=some ob)(ec:ob.cls = .type T)(eT:T="list"\/T="tuple")(ed:ob.data = .seq us.toArray n)
  (q:Q us { s with heap:=(s.heap.push (jo "list" #[] 0)).update s.heap.objs.size (je (· ++ us.toArray)) }) (z:us.length<=ba):wpAny (model prog w) A (collect (.ref l)) Q E s:=by
 unfold collect
 refine ae (xf (jb entry_proto_collect' ?g1))
 case g1=>
  show wpAny _ _ (do again (.builtin "list.__iadd__" ⟨[<- newList [],Value.ref l],[]⟩)) _ _ s
  refine ae (qf (ak ⟨se _ (by decide +kernel),jb entry_list_iadd' ?g2⟩))
  case g2=>
   have e1:(s.heap.push (jo "list" #[] 0)).get? l=some ob:=aj _ e0
   show wpAny _ _ (ly (Value.ref s.heap.objs.size) (Value.ref l) (Value.ref s.heap.objs.size)) _ _ { s with heap:=s.heap.push (jo "list" #[] 0) }
   unfold ly
   refine ae (rn (T:=T) ⟨ob,e1,ec⟩ ?g3)
   case g3=>
    have ht:((Value.type T == Value.type "list") || (Value.type T == Value.type "tuple"))=true:=by rcases eT with rfl | rfl <;> rfl
    rw[if_pos (by first | exact ht | (rcases eT with rfl | rfl <;> simp))]
    refine ae (vz e1 ed (ae (vz (xs:=#[]) (n:=0) (bh _ rfl) rfl ?g4)))
    case g4=>
     rw[if_neg (by simp)]
     refine ae (qg (xs:=#[]) (n:=0) (bh _ rfl) rfl ?g5 (ay _) (by show (#[]++us.toArray).size<=ba+1;simp only [Array.size_append,aq,ni];omega))
     case g5=>
      refine ak ?g6
      case g6=>
       show wpAny (model prog w) A (load s.heap.objs.size >>= fun o=>match o.data with | .seq xs _=>pure xs.toList | _=>unsupported "internal:collect") Q E { s with heap:=(s.heap.push (jo "list" #[] 0)).update s.heap.objs.size (je (· ++ us.toArray)) }
       refine ae (wpAny_load (v3 (bh _ rfl) _) ?g7)
       case g7=>
        show wpAny _ _ (pure ((#[]:Array Value)++us.toArray).toList) Q E _
        rw[show ((#[]:Array Value)++us.toArray).toList=us by simp]
        exact ak q
end
theorem IntsAre.len:∀ {ns:List Int} {us:List Value},IntsAre us ns->us.length=ns.length
 | [],_,h=>by cases h;rfl
 | n :: ns,_,h=>by
  cases h with
  | cons _ t h=>rw[dm,dm,IntsAre.len h]
mutual
def toP:Dt->PyData
 | .non => .none
 | .bl b => .bool b
 | .int i => .int i
 | .str x => .str x
 | .tup ds => .tuple (aCA ds)
 | .lst ds => .list (aCA ds)
def aCA:List Dt->List PyData
 | []=>[]
 | d :: ds=>toP d :: aCA ds
end
mutual
theorem aGD:∀ d,(toP d).depth=dep d
 | .non=>rfl
 | .bl b=>rfl
 | .int i=>rfl
 | .str x=>rfl
 | .tup ds=>by show (PyData.tuple (aCA ds)).depth=_;unfold PyData.depth dep;rw[vN]
 | .lst ds=>by show (PyData.list (aCA ds)).depth=_;unfold PyData.depth dep;rw[vN]
theorem vN:∀ ds,v5 (aCA ds)=aAe ds
 | []=>by unfold aCA aAe v5;rfl
 | d :: ds=>by unfold aCA aAe v5;rw[aGD,vN]
end
mutual
theorem aCl:∀ d,(toP d).hasDict=false
 | .non=>by unfold toP mz;rfl
 | .bl b=>by unfold toP mz;rfl
 | .int i=>by unfold toP mz;rfl
 | .str x=>by unfold toP mz;rfl
 | .tup ds=>by unfold toP mz;exact lQ ds
 | .lst ds=>by unfold toP mz;exact lQ ds
theorem lQ:∀ ds,ue (aCA ds)=false
 | []=>by unfold aCA ue;rfl
 | d :: ds=>by unfold aCA ue;rw[aCl,lQ];rfl
end
section
variable {X:Cx}{pins:List (Addr × Obj)}{σ:St}{H:Hp}{s:Shared}
mutual
theorem Inv.reads (I:Inv X pins σ H s):∀ {d:Dt} {x:V} {v:Value},RelV x v->Sh X.K H d x->∃ as,Reads s.heap v (toP d) as
 | .non,x,v,r,h=>by obtain rfl:x = .non:=h;obtain rfl:v = .none:=r;exact ⟨_, .none⟩
 | .bl b,x,v,r,h=>by obtain rfl:x = .bl b:=h;obtain rfl:v = .bool b:=r;exact ⟨_, .bool b⟩
 | .int i,x,v,r,h=>by obtain rfl:x = .int i:=h;obtain⟨t,rfl⟩:=r;exact ⟨_, .int i t⟩
 | .str y,x,v,r,h=>by obtain rfl:x = .str y:=h;obtain⟨t,rfl⟩:=r;exact ⟨_, .str y t⟩
 | .tup ds,x,v,r,⟨a,xs,h1,h2,h3⟩=>by
  subst h1
  obtain rfl:v=Value.ref a:=r
  obtain⟨its,rv,⟨o,ho,hc,n,hd⟩,_⟩:=I.tuple h2
  obtain⟨as,ha⟩:=Inv.readsAll I rv h3
  exact ⟨_, .tuple ho hc hd ha⟩
 | .lst ds,x,v,r,⟨a,xs,h1,h2,h3⟩=>by
  subst h1
  obtain rfl:v=Value.ref a:=r
  obtain⟨its,rv,pl,_⟩:=I.list h2
  obtain⟨o,ho,hc,n,hd⟩:=pl.isList
  obtain⟨as,ha⟩:=Inv.readsAll I rv h3
  exact ⟨_, .list ho hc hd ha⟩
theorem Inv.readsAll (I:Inv X pins σ H s):∀ {ds:List Dt} {xs:List V} {us:List Value},Vals xs us->ShL X.K H ds xs->∃ as,ReadsAll s.heap us (aCA ds) as
 | [],xs,us,r,h=>by obtain rfl:xs=[]:=h;cases r;exact ⟨_, .nil⟩
 | d :: ds,xs,us,r,⟨x,t,h1,h2,h3⟩=>by
  subst h1
  cases r with
  | cons r1 r2=>
   obtain⟨as,h4⟩:=Inv.reads I r1 h2
   obtain⟨bs,h5⟩:=Inv.readsAll I r2 h3
   exact ⟨_, .cons h4 h5⟩
end
end
def okR (d:Dt):Prop:=(toP d).showable=true/\(toP d).leavesShort 1930=true/\(toP d).bulk<=4000/\dep d<=100
def ItAt (b:Bool) (h:Heap) (it l:Addr) (i:Nat):Prop:=∃ o,h.get? it=some o/\o.cls = .type (if b then "list_iterator" else "tuple_iterator")/\o.data = .fields #[.ref l, .int i 0]
def ObAt (b:Bool) (h:Heap) (l:Addr) (us:Array Value):Prop:=∃ o,h.get? l=some o/\o.cls = .type (if b then "list" else "tuple")/\∃ n,o.data = .seq us n
theorem ItAt.keep {b:Bool}{h h':Heap}{it l:Addr}{i:Nat}(x:ItAt b h it l i)(e:∀ o,h.get? it=some o->h'.get? it=some o):ItAt b h' it l i:=let ⟨o,ho,r⟩:=x;⟨o,e _ ho,r⟩
theorem ObAt.keep {b:Bool}{h h':Heap}{l:Addr}{us:Array Value}(x:ObAt b h l us)(e:∀ o,h.get? l=some o->h'.get? l=some o):ObAt b h' l us:=let ⟨o,ho,r⟩:=x;⟨o,e _ ho,r⟩
theorem ItAt.lt {b:Bool}{h:Heap}{it l:Addr}{i:Nat}(x:ItAt b h it l i):it<h.objs.size:=let ⟨_,ho,_⟩:=x;bo ho
section
variable {prog:Program}{w:World}{A:Around}{E:Value->Shared->Prop}{s:Shared}
theorem tE {it t:Addr}{i:Nat}{us:Array Value}{x:Value}{Q:Value->Shared->Prop}(hit:s.heap.IsTupleIter it t i)(ht:s.heap.IsTuple t us)(hx:us[i]?=some x)
  (q:∀ h',h'.IsTupleIter it t (i+1)->ij it s.heap h'->Q x { s with heap:=h' }):wpAny (model prog w) A (d6 (.ref it)) Q E s:=by
 obtain⟨ob,e1,e2,e3⟩:=id hit
 obtain⟨ol,f1,_,nl,f2⟩:=ht
 unfold d6;refine ae (fg (name:=j4 "__next__") hit.typeIs jt (e8 jt hit.typeIs qt ?g (qh _)))
 case g=>
  show wpAny _ _ (field (.ref it) 0 >>= _) _ _ s;refine ae (gf e1 e3 (x := .ref t) rfl ?g)
  case g=>
   show wpAny _ _ (if (Value.ref t == Value.none)=true then _ else _) _ _ s;rw[if_neg (show ¬ ((Value.ref t == Value.none)=true) from br)]
   show wpAny _ _ (field (.ref it) 1 >>= _) _ _ s;refine ae (gf e1 e3 (x := .int i 0) rfl ?g)
   case g=>
    show wpAny _ _ (seqItems? (.ref t) >>= _) _ _ s;refine ae (i7 f1 f2 ?g)
    case g=>
     simp only [bz,hx];refine ae (o8 e1 e3 (by simp) (ak ⟨x,rfl,ak (q _ ?g (jq ..))⟩))
     case g=>exact ⟨_,ja _ e1 (ma (lq e3 _)),(uf ..).trans e2,by rw[lq e3];simp [js]⟩
theorem tP {it t:Addr}{i:Nat}{us:Array Value}{Q:Value->Shared->Prop}(hh:A.handled=none)(hit:s.heap.IsTupleIter it t i)(ht:s.heap.IsTuple t us)(hx:us[i]?=none)
  (q:∀ h' e,xm it s.heap h'->(∃ o,h'.get? e=some o/\o.cls = .type "StopIteration")->E (.ref e) { s with heap:=h' }):wpAny (model prog w) A (d6 (.ref it)) Q E s:=by
 obtain⟨ob,e1,e2,e3⟩:=id hit
 obtain⟨ol,f1,_,nl,f2⟩:=ht
 unfold d6;refine ae (fg (name:=j4 "__next__") hit.typeIs jt (e8 jt hit.typeIs qt ?g (qh _)))
 case g=>
  show wpAny _ _ (field (.ref it) 0 >>= _) _ _ s;refine ae (gf e1 e3 (x := .ref t) rfl ?g)
  case g=>
   show wpAny _ _ (if (Value.ref t == Value.none)=true then _ else _) _ _ s;rw[if_neg (show ¬ ((Value.ref t == Value.none)=true) from br)]
   show wpAny _ _ (field (.ref it) 1 >>= _) _ _ s;refine ae (gf e1 e3 (x := .int i 0) rfl ?g)
   case g=>
    show wpAny _ _ (seqItems? (.ref t) >>= _) _ _ s;refine ae (i7 f1 f2 ?g)
    case g=>
     simp only [bz,hx];refine ae (mj (ae (o8 e1 e3 (by simp) ?g)))
     case g=>
      show wpAny _ _ (newExc (.type "StopIteration") [] >>= _) _ _ _;refine ae ?g
      case g=>
       simp only [newExc,newTuple];refine ae (gq ?g (by size_fits))
       case g=>
        refine ae (m:=tq _ _) (ur (a:=Value.none) (by first | rfl | (simp only [tq];rfl)) ?g)
        case g=>
         refine gq ?g (by size_fits)
         case g=>
          simp only [raiseNew];refine ae (wpAny_handled ?g)
          case g=>
           first | rw[show A.in1.handled=none from hh] | rw[hh]
           exact ae (ak (wpAny_throw (q _ _ (((jq ..).extBut.push _).push _) ⟨_,bh _ rfl,rfl⟩)))
theorem qJ {b:Bool}{it l:Addr}{i:Nat}{us:Array Value}{x:Value}{Q:Value->Shared->Prop}(hit:ItAt b s.heap it l i)(ho:ObAt b s.heap l us)(hx:us[i]?=some x)
  (q:∀ h',ItAt b h' it l (i+1)->ij it s.heap h'->Q x { s with heap:=h' }):wpAny (model prog w) A (d6 (.ref it)) Q E s:=by
 cases b with
 | true=>exact wpAny_nextOf_list_item (l:=l) (i:=i) (items:=us) hit ho hx q
 | false=>exact tE (t:=l) (i:=i) (us:=us) hit ho hx q
theorem aAJ {b:Bool}{it l:Addr}{i:Nat}{us:Array Value}{Q:Value->Shared->Prop}(hh:A.handled=none)(hit:ItAt b s.heap it l i)(ho:ObAt b s.heap l us)(hx:us[i]?=none)
  (q:∀ h' e,xm it s.heap h'->(∃ o,h'.get? e=some o/\o.cls = .type "StopIteration")->E (.ref e) { s with heap:=h' }):wpAny (model prog w) A (d6 (.ref it)) Q E s:=by
 cases b with
 | true=>exact wpAny_nextOf_list_end (l:=l) (i:=i) (items:=us) hh hit ho hx q
 | false=>exact tP (t:=l) (i:=i) (us:=us) hh hit ho hx q
abbrev itO (b:Bool) (l:Addr):Obj:={ cls := .type (if b then "list_iterator" else "tuple_iterator"),data := .fields #[.ref l, .int 0 0] }
theorem qI {b:Bool}{l:Addr}{us:Array Value}{Q:Value->Shared->Prop}(ho:ObAt b s.heap l us)(q:Q (.ref s.heap.objs.size) { s with heap:=s.heap.push (itO b l) }):wpAny (model prog w) A (y9 (.ref l)) Q E s:=by
 cases b with
 | true=>exact oz (show s.heap.IsList l us from ho) q
 | false=>exact sd (show s.heap.IsTuple l us from ho) q
structure ZA (z ti to i1 i2:Addr):Prop where
 a1:ti≠z
 a2:to≠z
 a3:i1≠z
 a4:i2≠z
 a5:ti≠to
 a6:ti≠i1
 a7:ti≠i2
 a8:to≠i1
 a9:to≠i2
 a10:i1≠i2
def ZP (z to i1 i2 c:Addr):Prop:=c≠z/\c≠to/\c≠i1/\c≠i2
theorem aEJ {b1 b2:Bool}{z ti to i1 i2 l1 l2:Addr}{k1 k2:Nat}{xs ys:Array Value}{x y u v:Value}{Q:Value->Shared->Prop}(D:ZA z ti to i1 i2)(D1:ZP z to i1 i2 l1)(D2:ZP z to i1 i2 l2)(hz:IsZip s.heap z ti to .none)(hti:ug s.heap ti (.ref i1) (.ref i2))(hto:ug s.heap to u v)
  (h1:ItAt b1 s.heap i1 l1 k1) (h2:ItAt b2 s.heap i2 l2 k2) (o1:ObAt b1 s.heap l1 xs) (o2:ObAt b2 s.heap l2 ys) (hx:xs[k1]?=some x) (hy:ys[k2]?=some y)
  (q:∀ h',IsZip h' z ti to (js s.heap.objs.size)->ug h' to x y->ItAt b1 h' i1 l1 (k1+1)->ItAt b2 h' i2 l2 (k2+1)->ug h' s.heap.objs.size x y->h'.objs.size=s.heap.objs.size+1->(∀ c o,ZP z to i1 i2 c->s.heap.get? c=some o->h'.get? c=some o)->Q (.ref s.heap.objs.size) { s with heap:=h' }) :
  wpAny (model prog w) A (Builtin.«zip.__next__» ⟨[.ref z],[]⟩) (fun fin s'=>∃ r,fin = .done (.ret r)/\Q r s') E s:=by
 show wpAny _ _ (field (.ref z) 2 >>= _) _ _ _;refine ae (gf hz rfl (x := .bool false) rfl ?g)
 case g=>
 show wpAny _ _ (field (.ref z) 3 >>= _) _ _ _;refine ae (gf hz rfl (x := .ref ti) rfl (ae (i7 hti rfl ?g)))
 case g=>
 show wpAny _ _ (fj (.ref z) >>= _) _ _ _;unfold fj;refine ae (ae (gf hz rfl (x := .none) rfl (ak ?g)))
 case g=>
 simp only [if_true];refine ae (mj (ae (gf hz rfl (x := .ref to) rfl (ae (gi hz (by simp) fun H1 z1 s1=>?g)))))
 case g=>
 replace z1:IsZip H1 z ti to .ellipsis:=z1
 refine ae ?g
 case g=>
 simp only [List.zipIdx_cons,List.zipIdx_nil,h7,jl];refine ae (ae (qi ?g))
 case g=>
 show wpAny _ _ (d6 (.ref i1) >>= _) _ _ _;refine ae (qJ (b:=b1) (h1.keep fun o e=>s1.extBut _ _ D.a3 e) (o1.keep fun o e=>s1.extBut _ _ D1.1 e) hx fun H2 t1 s2=>ak ?g)
 case g=>
 have p2:ug H2 to u v:=s2.extBut _ _ D.a8 (s1.extBut _ _ D.a2 hto)
 refine ae (i7 p2 rfl (ae (qa p2 fun H3 p3 s3=>?g)))
 case g=>
 replace p3:ug H3 to x v:=p3
 refine ae (xn (ak (ae (ae (qi ?g)))))
 case g=>
 show wpAny _ _ (d6 (.ref i2) >>= _) _ _ _
 refine ae (qJ (b:=b2) (h2.keep fun o e=>s3.extBut _ _ D.a9.symm (s2.extBut _ _ D.a10.symm (s1.extBut _ _ D.a4 e))) (o2.keep fun o e=>s3.extBut _ _ D2.2.1 (s2.extBut _ _ D2.2.2.1 (s1.extBut _ _ D2.1 e))) hy fun H4 t2 s4=>ak ?g)
 case g=>
 have p4:ug H4 to x v:=s4.extBut _ _ D.a9 p3
 refine ae (i7 p4 rfl (ae (qa p4 fun H5 p5 s5=>?g)))
 case g=>
 replace p5:ug H5 to x y:=p5
 refine ae (xn (ak (ak (ae (i7 p5 rfl (ae (tu ?g)))))))
 case g=>
 have sz:H5.objs.size=s.heap.objs.size:=by rw[s5.1,s4.1,s3.1,s2.1,s1.1]
 have z5:IsZip H5 z ti to .ellipsis:=s5.extBut _ _ D.a2.symm (s4.extBut _ _ D.a4.symm (s3.extBut _ _ D.a2.symm (s2.extBut _ _ D.a3.symm z1)))
 have k5:∀ c o,ZP z to i1 i2 c->s.heap.get? c=some o->H5.get? c=some o:=fun c o n e=>s5.extBut _ _ n.2.1 (s4.extBut _ _ n.2.2.2 (s3.extBut _ _ n.2.1 (s2.extBut _ _ n.2.2.1 (s1.extBut _ _ n.1 e))))
 have t15:ItAt b1 H5 i1 l1 (k1+1):=t1.keep fun o e=>s5.extBut _ _ D.a8.symm (s4.extBut _ _ D.a10 (s3.extBut _ _ D.a8.symm e))
 have t25:ItAt b2 H5 i2 l2 (k2+1):=t2.keep fun o e=>s5.extBut _ _ D.a9.symm e
 have lz:z<H5.objs.size:=bo z5
 show wpAny _ _ (h9 (.ref z) (.ref H5.objs.size) >>= _) _ _ _;unfold h9
 have z6:IsZip (H5.push { cls := .type "tuple",data := .seq #[x,y] }) z ti to .ellipsis:=aj _ z5
 refine ae (ae (gi z6 (by simp) fun H7 z7 s7=>?g))
 case g=>
 replace z7:IsZip H7 z ti to (js H5.objs.size):=z7
 refine gi z7 (by simp) fun H8 z8 s8=>?g
 case g=>
 replace z8:IsZip H8 z ti to (js H5.objs.size):=z8
 have up:∀ c o,c≠z->H5.get? c=some o->H8.get? c=some o:=fun c o n e=>s8.extBut _ _ n (s7.extBut _ _ n (aj _ e))
 have p8:ug H8 H5.objs.size x y:=s8.extBut _ _ (jk lz) (s7.extBut _ _ (jk lz) (bh _ rfl))
 have n8:H8.objs.size=H5.objs.size+1:=by rw[s8.1,s7.1,fv]
 rw[sz] at z8 p8 n8
 refine ak ⟨_,rfl,(?g:Q (.ref H5.objs.size) _)⟩
 case g=>
 rw[sz]
 exact q H8 z8 (up _ _ D.a2 p5) (t15.keep fun o e=>up _ o D.a3 e) (t25.keep fun o e=>up _ o D.a4 e) p8 n8 fun c o n e=>up c o n.1 (k5 c o n e)
theorem aGR {b1 b2:Bool}{z ti to i1 i2 l1 l2:Addr}{k1 k2:Nat}{xs ys:Array Value}{u v:Value}{Q:Fin->Shared->Prop}(hh:A.handled=none)(D:ZA z ti to i1 i2)(D1:ZP z to i1 i2 l1)(D2:ZP z to i1 i2 l2)(hz:IsZip s.heap z ti to .none)(hti:ug s.heap ti (.ref i1) (.ref i2))(hto:ug s.heap to u v)
  (h1:ItAt b1 s.heap i1 l1 k1) (h2:ItAt b2 s.heap i2 l2 k2) (o1:ObAt b1 s.heap l1 xs) (o2:ObAt b2 s.heap l2 ys) (hend:xs[k1]?=none\/ys[k2]?=none)
  (q:∀ h' e,(∀ c o,ZP z to i1 i2 c->s.heap.get? c=some o->h'.get? c=some o)->(∃ o,h'.get? e=some o/\o.cls = .type "StopIteration")->E (.ref e) { s with heap:=h' }) :
  wpAny (model prog w) A (Builtin.«zip.__next__» ⟨[.ref z],[]⟩) Q E s:=by
 show wpAny _ _ (field (.ref z) 2 >>= _) _ _ _;refine ae (gf hz rfl (x := .bool false) rfl ?g)
 case g=>
 show wpAny _ _ (field (.ref z) 3 >>= _) _ _ _;refine ae (gf hz rfl (x := .ref ti) rfl (ae (i7 hti rfl ?g)))
 case g=>
 show wpAny _ _ (fj (.ref z) >>= _) _ _ _;unfold fj;refine ae (ae (gf hz rfl (x := .none) rfl (ak ?g)))
 case g=>
 simp only [if_true];refine ae (mj (ae (gf hz rfl (x := .ref to) rfl (ae (gi hz (by simp) fun H1 z1 s1=>?g)))))
 case g=>
 replace z1:IsZip H1 z ti to .ellipsis:=z1
 refine ae ?g
 case g=>
 simp only [List.zipIdx_cons,List.zipIdx_nil,h7,jl];refine ae (ae (qi ?g))
 case g=>
 show wpAny _ _ (d6 (.ref i1) >>= _) _ _ _
 cases hx:xs[k1]? with
 | none=>
  refine ae (aAJ (b:=b1) hh (h1.keep fun o e=>s1.extBut _ _ D.a3 e) (o1.keep fun o e=>s1.extBut _ _ D1.1 e) hx fun H2 e s2 ⟨oe,e1,e2⟩=>?g)
  case g=>
  have z2:IsZip H2 z ti to .ellipsis:=s2 _ _ D.a3.symm z1
  have ne:e≠z:=fun x=>by subst x;rw[z2] at e1;cases e1;simp at e2
  exact gi z2 (by simp) fun H3 _ s3=>q H3 e (fun c o n x=>s3.extBut _ _ n.1 (s2 _ _ n.2.2.1 (s1.extBut _ _ n.1 x))) ⟨oe,s3.extBut _ _ ne e1,e2⟩
 | some x=>
  have hy:ys[k2]?=none:=hend.resolve_left (by rw[hx];exact fun h=>by cases h)
  refine ae (qJ (b:=b1) (h1.keep fun o e=>s1.extBut _ _ D.a3 e) (o1.keep fun o e=>s1.extBut _ _ D1.1 e) hx fun H2 t1 s2=>ak ?g)
  case g=>
  have p2:ug H2 to u v:=s2.extBut _ _ D.a8 (s1.extBut _ _ D.a2 hto)
  refine ae (i7 p2 rfl (ae (qa p2 fun H3 p3 s3=>?g)))
  case g=>
  refine ae (xn (ak (ae (ae (qi ?g)))))
  case g=>
  show wpAny _ _ (d6 (.ref i2) >>= _) _ _ _
  refine ae (aAJ (b:=b2) hh (h2.keep fun o e=>s3.extBut _ _ D.a9.symm (s2.extBut _ _ D.a10.symm (s1.extBut _ _ D.a4 e))) (o2.keep fun o e=>s3.extBut _ _ D2.2.1 (s2.extBut _ _ D2.2.2.1 (s1.extBut _ _ D2.1 e))) hy fun H4 e s4 ⟨oe,e1,e2⟩=>?g)
  case g=>
  have z4:IsZip H4 z ti to .ellipsis:=s4 _ _ D.a4.symm (s3.extBut _ _ D.a2.symm (s2.extBut _ _ D.a3.symm z1))
  have ne:e≠z:=fun x=>by subst x;rw[z4] at e1;cases e1;simp at e2
  exact gi z4 (by simp) fun H5 _ s5=>q H5 e (fun c o n x=>s5.extBut _ _ n.1 (s4 _ _ n.2.2.2 (s3.extBut _ _ n.2.1 (s2.extBut _ _ n.2.2.1 (s1.extBut _ _ n.1 x))))) ⟨oe,s5.extBut _ _ ne e1,e2⟩
end
section
variable {X:Cx}{pins:List (Addr × Obj)}{σ:St}{H:Hp}{s:Shared}{h':Heap}
theorem Inv.turnedL {t':Nat}{ch:List Addr}(I:Inv X pins σ H s)(hf:∀ b∈ch,FpOk X pins H b)(k:∀ b o,b∉ch->s.heap.get? b=some o->h'.get? b=some o):Inv X pins σ H { s with heap:=h',toks:=t' }:=by
 have nit:∀ b u,H b=some u->b∉ch:=fun b u e z=>by rw[(hf b z).1] at e;cases e
 refine I.step (g':=s.gens) (d':=s.drawn) (ch:=ch) (fun b hb=>?_) (fun b o _ _ hc e _=>k b o hc e) (fun b o _ _ hc e _=>⟨o.slots,k b o hc e⟩) (fun _ _ _ _ n=>n) (fun b o hc e=>⟨o,k b o hc e⟩) (fun _ _ e=>e) (fun _ _ _ e=>e) (fun b ps e=>⟨#[],by rw[e];simp⟩) (fun m hm=>?_) (fun b u e=>?_) I.bare
 ·obtain⟨_,f1,_,f3,f4,f5⟩:=hf b hb
  exact ⟨f3,f1,f4,f5⟩
 ·obtain⟨o,es,ep,ho,r⟩:=hm
  exact ⟨o,es,ep,k _ o (fun z=>(hf _ z).2.1 rfl) ho,r⟩
 ·refine (I.hok b u e).stay (fun c v hc q=>k c v ?_ q) (fun _ q=>q) fun _ _ q=>q
  rcases hc with z | z
  ·rw[z];exact nit b u e
  ·exact nit c _ z
end
def SqB (b:Bool) (K:aa) (H:Hp) (l:Addr) (xs:List V):Prop:=match b with | true=>SqL K H l xs | false=>SqT K H l xs
section
variable {X:Cx}{pins:List (Addr × Obj)}{σ:St}{H:Hp}{s:Shared}
theorem Inv.obAt {b:Bool}{l:Addr}{xs:List V}(I:Inv X pins σ H s)(h:SqB b X.K H l xs):∃ its:List Value,Vals xs its/\ObAt b s.heap l its.toArray/\xs.length<=ba:=by
 cases b with
 | true=>
  obtain⟨its,rv,pl,hz⟩:=I.list h
  obtain⟨o,ho,hc,n,hd⟩:=pl.isList
  exact ⟨its,rv,⟨o,ho,hc,n,hd⟩,hz⟩
 | false=>
  obtain⟨its,rv,⟨o,ho,hc,n,hd⟩,hz⟩:=I.tuple h
  exact ⟨its,rv,⟨o,ho,hc,n,hd⟩,hz⟩
theorem Inv.sqB_inj {b:Bool}{l:Addr}{xs ys:List V}(I:Inv X pins σ H s)(h:SqB b X.K H l xs)(h':SqB b X.K H l ys):xs=ys:=by
 cases b with
 | true=>exact I.list_inj h h'
 | false=>exact I.tuple_inj h h'
end
def Itz (K : aa) (b1 b2 : Bool) (l1 l2 : Addr) : It :=
  ⟨fun i H => ∃ xs ys x y, SqB b1 K H l1 xs /\ SqB b2 K H l2 ys /\ xs[i]? = some x /\ ys[i]? = some y,
   fun i H v H' => ∃ p x y, v = .ref p /\ H p = none /\ H' = upd H p (.tup [x, y]) /\ (∀ xs, SqB b1 K H l1 xs -> xs[i]? = some x) /\ ∀ ys, SqB b2 K H l2 ys -> ys[i]? = some y,
   fun i H => ∃ xs ys, SqB b1 K H l1 xs /\ SqB b2 K H l2 ys /\ (xs.length <= i \/ ys.length <= i)⟩
def zTn (b1 b2:Bool) (z ti to i1 i2 l1 l2:Addr) (i:Nat) (h:Heap):Prop:=IsZip h z ti to .none/\ug h ti (.ref i1) (.ref i2)/\(∃ u v,ug h to u v)/\ItAt b1 h i1 l1 i/\ItAt b2 h i2 l2 i
theorem aEX {P:Program}{w:World}{K:aa}{es:List Expr}{k:Nat}{pos:Pos}{b1 b2:Bool}{z ti to i1 i2 l1 l2:Addr}(D:ZA z ti to i1 i2)(D1:ZP z to i1 i2 l1)(D2:ZP z to i1 i2 l2) :
  aGi P w K (.Tuple es k pos) (Itz K b1 b2 l1 l2) [z,ti,to,i1,i2] z (zTn b1 b2 z ti to i1 i2 l1 l2) where
 mem:=by simp
 obj:=fun i h ⟨h1,h2,⟨u,v,h3⟩,⟨o4,h4,_,d4⟩,⟨o5,h5,_,d5⟩⟩ b hb=>by
  simp only [dk,jg,or_false] at hb
  rcases hb with rfl | rfl | rfl | rfl | rfl
  ·exact ⟨_,h1,fun v q=>by cases q⟩
  ·exact ⟨_,h2,fun v q=>by cases q⟩
  ·exact ⟨_,h3,fun v q=>by cases q⟩
  ·exact ⟨_,h4,fun v q=>by rw[d4] at q;cases q⟩
  ·exact ⟨_,h5,fun v q=>by rw[d5] at q;cases q⟩
 keep:=fun i h h' ⟨h1,h2,⟨u,v,h3⟩,h4,h5⟩ kp=>⟨kp z (by simp) _ h1,kp ti (by simp) _ h2,⟨u,v,kp to (by simp) _ h3⟩,h4.keep fun o e=>kp i1 (by simp) o e,h5.keep fun o e=>kp i2 (by simp) o e⟩
 item:=by
  intro X hP hw hK hc i pins s σ H E I hf st hg
  subst hP hw hK
  obtain⟨h1,h2,⟨u0,v0,h3⟩,h4,h5⟩:=st
  obtain⟨xs,ys,x,y,q1,q2,hx,hy⟩:=hg
  obtain⟨us,r1,o1,z1⟩:=I.obAt q1
  obtain⟨vs,r2,o2,z2⟩:=I.obAt q2
  obtain⟨ux,hux,rx⟩:=r1.get hx
  obtain⟨uy,huy,ry⟩:=r2.get hy
  have hT:s.TypeIs (.ref z) "zip":=⟨_,h1,rfl⟩
  unfold vf
  refine ae (ky (fg (name:=j4 "__next__") hT qu (e8 qu hT F.entry_zip_next (aEJ D D1 D2 h1 h2 h3 h4 h5 o1 o2 (by simpa using hux) (by simpa using huy) fun h' g1 g2 g3 g4 g5 g6 kp=>ak ⟨_,rfl,?g⟩) (F.args_zip_next_1 _))))
  case g=>
  refine wpAny_letOwnedTupleGo_zip (s:={ s with heap:=h' }) g1 fun h2' g1' sb=>?g
  case g=>
  have lt:∀ b∈[z,ti,to,i1,i2],b<s.heap.objs.size:=fun b hb=>by
   simp only [dk,jg,or_false] at hb
   rcases hb with rfl | rfl | rfl | rfl | rfl
   ·exact bo h1
   ·exact bo h2
   ·exact bo h3
   ·exact h4.lt
   ·exact h5.lt
  have kb:∀ c o,c∉[z,ti,to,i1,i2]->s.heap.get? c=some o->h'.get? c=some o:=fun c o n e=>kp c o ⟨fun q=>n (by simp [q]),fun q=>n (by simp [q]),fun q=>n (by simp [q]),fun q=>n (by simp [q])⟩ e
  have hn:H s.heap.objs.size=none:=I.hok.fresh (bg _)
  have I1:Inv X pins σ (upd H s.heap.objs.size (.tup [x,y])) { s with heap:=s.heap.push { cls := .type "tuple",data := .seq #[ux,uy] } }:=
   I.laid (t':=s.toks) (fun b o e=>aj _ e) (bg _) (show ObjOk X.prog X.w _ _ _ (.tup [x,y]) from ⟨show 2<=ba by decide,[ux,uy], .cons rx (.cons ry .nil),TupN.new _ _⟩)
  have hf1:∀ b∈[z,ti,to,i1,i2],FpOk X pins (upd H s.heap.objs.size (.tup [x,y])) b:=fun b hb=>by
   obtain⟨f0,f⟩:=hf b hb
   exact ⟨by rw[bA (di (lt b hb))];exact f0,f⟩
  have I2:Inv X pins σ (upd H s.heap.objs.size (.tup [x,y])) { s with heap:=h' }:=I1.turnedL (t':=s.toks) hf1 fun b o nb e=>by
   rcases wx e with ⟨eb,eo⟩ | e
   ·subst eb;subst eo
    exact g5
   ·exact kb b o nb e
  have I3:Inv X pins σ (upd H s.heap.objs.size (.tup [x,y])) { s with heap:=h2' }:=I2.turnedL (t':=s.toks) hf1 fun b o nb e=>sb.extBut _ _ (fun q=>nb (by simp [q])) e
  exact ⟨.ref s.heap.objs.size,_,I3,rfl,⟨_,x,y,rfl,hn,rfl,fun xs' e=>by rw[I.sqB_inj e q1];exact hx,fun ys' e=>by rw[I.sqB_inj e q2];exact hy⟩,
   ⟨g1',sb.extBut _ _ D.a1 (kp _ _ ⟨D.a1,D.a5,D.a6,D.a7⟩ h2),⟨_,_,sb.extBut _ _ D.a2 g2⟩,g3.keep fun o e=>sb.extBut _ _ D.a3 e,g4.keep fun o e=>sb.extBut _ _ D.a4 e⟩,fun b hb=>(hf1 b hb).1⟩
 done:=by
  intro X hP hw hK hc i pins s σ H E I hf st hg
  subst hP hw hK
  obtain⟨h1,h2,⟨u0,v0,h3⟩,h4,h5⟩:=st
  obtain⟨xs,ys,q1,q2,hl⟩:=hg
  obtain⟨us,r1,o1,z1⟩:=I.obAt q1
  obtain⟨vs,r2,o2,z2⟩:=I.obAt q2
  have l1':=r1.length
  have l2':=r2.length
  have hT:s.TypeIs (.ref z) "zip":=⟨_,h1,rfl⟩
  unfold vf
  refine ae (ky (fg (name:=j4 "__next__") hT qu (e8 qu hT F.entry_zip_next (aGR (I.ok.hd hc) D D1 D2 h1 h2 h3 h4 h5 o1 o2 (hl.elim (fun h => .inl (by simp;omega)) fun h => .inr (by simp;omega)) fun h' e kp ⟨o,e1,e2⟩=>?g) (F.args_zip_next_1 _))))
  case g=>
  refine ae (jx (T:="StopIteration") (b:=true) ⟨o,e1,e2⟩ xg (ak ⟨rfl,?g⟩))
  case g=>
  exact I.turnedL (t':=s.toks) hf fun c o n e=>kp c o ⟨fun q=>n (by simp [q]),fun q=>n (by simp [q]),fun q=>n (by simp [q]),fun q=>n (by simp [q])⟩ e
 self:=fun _ _ _ _ _ st q=>wpAny_pyIter_zip st.1 q
abbrev zH1 (h:Heap) (b1:Bool) (l1:Addr):Heap:=h.push (itO b1 l1)
abbrev zH2 (h:Heap) (b1 b2:Bool) (l1 l2:Addr):Heap:=(zH1 h b1 l1).push (itO b2 l2)
abbrev zH3 (h:Heap) (b1 b2:Bool) (l1 l2:Addr):Heap:=(zH2 h b1 b2 l1 l2).push { cls := .type "tuple",data := .seq #[.ref h.objs.size, .ref (zH1 h b1 l1).objs.size] }
abbrev zH4 (h:Heap) (b1 b2:Bool) (l1 l2:Addr):Heap:=(zH3 h b1 b2 l1 l2).push { cls := .type "tuple",data := .seq #[.none, .none] }
abbrev zH5 (h:Heap) (b1 b2:Bool) (l1 l2:Addr):Heap:=(zH4 h b1 b2 l1 l2).push { cls := .type "zip",data := .fields #[.none, .bool false, .bool false, .ref (zH2 h b1 b2 l1 l2).objs.size, .ref (zH3 h b1 b2 l1 l2).objs.size] }
theorem ObAt.push {b:Bool}{h:Heap}{l:Addr}{us:Array Value}(x:ObAt b h l us)(o:Obj):ObAt b (h.push o) l us:=x.keep fun _ e=>aj _ e
theorem aHv (b1 b2:Bool)(l1 l2:Addr)(xs ys:Array Value) :
  Meets (Builtin.«zip.__new__» ⟨[.type "zip", .ref l1, .ref l2],[]⟩) (fun _ R s=>ObAt b1 s.heap l1 xs/\ObAt b2 s.heap l2 ys/\R (.ok (.ret (.ref (zH4 s.heap b1 b2 l1 l2).objs.size))) { s with heap:=zH5 s.heap b1 b2 l1 l2 }):=
 .of_wp fun prog w A R s h=>by
  obtain⟨hp,g,d,tk,os⟩:=s;obtain⟨m1,m2,q⟩:=h
  have hsub:=sub_zip;have n1:ObAt b1 (zj ⟨hp,g,d,tk,os⟩) l1 xs:=m1
  have n2:ObAt b2 (zj ⟨hp.push (itO b1 l1),g,d,tk,os⟩) l2 ys:=ObAt.push m2 _
  wp_walk using qI n1,qI n2
  exact ⟨_,rfl,q⟩
theorem aED {prog:Program}{w:World}{A:Around}{E:Value->Shared->Prop}{s:Shared}{b1 b2:Bool}{l1 l2:Addr}{xs ys:Array Value}{Q:Value->Shared->Prop}(o1:ObAt b1 s.heap l1 xs)(o2:ObAt b2 s.heap l2 ys)
  (q:∀ h',zTn b1 b2 (s.heap.objs.size+4) (s.heap.objs.size+2) (s.heap.objs.size+3) s.heap.objs.size (s.heap.objs.size+1) l1 l2 0 h'->(∀ c o,s.heap.get? c=some o->h'.get? c=some o)->Q (.ref (s.heap.objs.size+4)) { s with heap:=h' }) :
  wpAny (model prog w) A (call (.type "zip") [.ref l1, .ref l2]) Q E s:=by
 refine callType_new F.called_zip (by decide) (F.typeCall_zip_2 _ _) (F.newCall_zip_2 _ _) (fun ob=>F.args_object_init_3 ob _ _) F.entry_zip_new (aHv b1 b2 l1 l2 xs ys) ⟨o1,o2,?g⟩
 case g=>
 have z1:(zH1 s.heap b1 l1).objs.size=s.heap.objs.size+1:=fv ..
 have z2:(zH2 s.heap b1 b2 l1 l2).objs.size=s.heap.objs.size+2:=by rw[fv,z1]
 have z3:(zH3 s.heap b1 b2 l1 l2).objs.size=s.heap.objs.size+3:=by rw[fv,z2]
 have z4:(zH4 s.heap b1 b2 l1 l2).objs.size=s.heap.objs.size+4:=by rw[fv,z3]
 have g5:(zH5 s.heap b1 b2 l1 l2).get? (zH4 s.heap b1 b2 l1 l2).objs.size=some _:=bh _ rfl
 have g4:(zH5 s.heap b1 b2 l1 l2).get? (zH3 s.heap b1 b2 l1 l2).objs.size=some _:=aj _ (bh _ rfl)
 have g3:(zH5 s.heap b1 b2 l1 l2).get? (zH2 s.heap b1 b2 l1 l2).objs.size=some _:=aj _ (aj _ (bh _ rfl))
 have g2:(zH5 s.heap b1 b2 l1 l2).get? (zH1 s.heap b1 l1).objs.size=some _:=aj _ (aj _ (aj _ (bh _ rfl)))
 have g1:(zH5 s.heap b1 b2 l1 l2).get? s.heap.objs.size=some _:=aj _ (aj _ (aj _ (aj _ (bh _ rfl))))
 rw[z2,z3,z4] at g5;rw[z1,z2] at g3;rw[z3] at g4;rw[z1] at g2
 show _/\_
 rw[z4]
 exact ⟨⟨_,g5,rfl⟩,q _ ⟨g5,g3,⟨_,_,g4⟩,⟨_,g1,rfl,rfl⟩,⟨_,g2,rfl,rfl⟩⟩ fun c o x=>aj _ (aj _ (aj _ (aj _ (aj _ x))))⟩
def aHA (K:aa) (ta:TA):TI:=fun σ H R=>ta σ H fun vs H1=>∃ l1 l2 b1 b2,vs=[.ref l1, .ref l2]/\(∃ xs,SqB b1 K H1 l1 xs)/\(∃ ys,SqB b2 K H1 l2 ys)/\R (Itz K b1 b2 l1 l2) H1
theorem aIU (n:Nat):ZA (n+4) (n+2) (n+3) n (n+1):=by
 constructor <;> (intro h;replace h:(_:Nat)=_:=h;omega)
theorem aFU {n l:Nat}(h:l<n):ZP (n+4) (n+3) n (n+1) l:=
 ⟨di (aw h (jh _ _)),di (aw h (jh _ _)),di h,di (aw h (jh _ _))⟩
theorem aJv:d9 "zip" = some (.type "zip"):=by decide +kernel
theorem aIg {X:Cx}{es:List Expr}{k:Nat}{po:Pos}{a b:Expr}{ta:TA}{p pos:Pos}(hg:Gl X "zip")(hm:X.mg "zip" = none)(ha:PA X [a,b] ta)(hs:dz [a,b] X.env=[(false,eval a X.env),(false,eval b X.env)]:=by rfl)(hs2:dz [b] X.env=[(false,eval b X.env)]:=by rfl) :
  PI X (.Tuple es k po) (.Call (.Name "zip" p) [a,b] [] pos) (aHA X.K ta):=by
 intro pins s σ H R I h
 refine Call_ (rH I hg hm aJv (iz (thn (ha pos pins s σ H _ I h) fun us s1 ⟨vs,H1,I1,r1,q1⟩=>?g) (by rw[hs,hs2]) (by rw[hs2];rfl)))
 case g=>
 obtain⟨l1,l2,b1,b2,e,⟨xs,q2⟩,⟨ys,q3⟩,q⟩:=q1
 subst e
 obtain⟨u1,u2,rfl,e1,e2⟩:=aII r1
 obtain rfl:u1=Value.ref l1:=e1
 obtain rfl:u2=Value.ref l2:=e2
 obtain⟨x1,v1,o1,_⟩:=I1.obAt q2
 obtain⟨x2,v2,o2,_⟩:=I1.obAt q3
 have a1:l1<s1.heap.objs.size:=let ⟨_,e,_⟩:=o1;bo e
 have a2:l2<s1.heap.objs.size:=let ⟨_,e,_⟩:=o2;bo e
 refine aED o1 o2 fun h' zt kp=>wpAny_pyIter_zip (s:={ s1 with heap:=h' }) zt.1 ?g
 case g=>
 refine ⟨_,[s1.heap.objs.size+4,s1.heap.objs.size+2,s1.heap.objs.size+3,s1.heap.objs.size,s1.heap.objs.size+1],_,_,H1,rfl,I1.kept (t':=s1.toks) kp,aEX (aIU _) (aFU a1) (aFU a2),zt,fun b hb=>?g,q⟩
 case g=>
 have lb:s1.heap.objs.size<=b:=by
  simp only [dk,jg,or_false] at hb
  rcases hb with rfl | rfl | rfl | rfl | rfl <;> first | exact jh _ _ | exact bg _
 exact I1.fpOk lb (I1.hok.fresh lb)
theorem wW {X:Cx}{K:aa}{es:List Expr}{k:Nat}{po:Pos}{a b:Expr}{ta:TA}{p pos:Pos}(hK:X.K=K)(hg:Gl X "zip")(hm:X.mg "zip" = none)(ha:PA X [a,b] ta)(hs:dz [a,b] X.env=[(false,eval a X.env),(false,eval b X.env)]:=by rfl)(hs2:dz [b] X.env=[(false,eval b X.env)]:=by rfl) :
  PI X (.Tuple es k po) (.Call (.Name "zip" p) [a,b] [] pos) (aHA K ta):=by subst hK;exact aIg hg hm ha hs hs2
theorem aHf {K:aa}{b1 b2:Bool}{l1 l2:Addr}{xs ys:List V}{g:TG}{tb:TS}{D:lO}{σ:St}{H:Hp}(hlen:ys.length=xs.length)(Pv:Nat->St->Hp->Prop)(h0:Pv 0 σ H)(hl:∀ i σ H,i<=xs.length->Pv i σ H->SqB b1 K H l1 xs/\SqB b2 K H l2 ys)
  (hs:∀ i x y σ H p,xs[i]?=some x->ys[i]?=some y->H p=none->Pv i σ H->g (.ref p) σ (upd H p (.tup [x,y])) fun σ2 H2=>tb { D with nx:=Pv (i+1),ct:=Pv (i+1),bk:=D.nx } σ2 H2) (hd:∀ σ H,Pv xs.length σ H->D.nx σ H) :
  iO (Itz K b1 b2 l1 l2) g tb D σ H:=by
 refine ⟨fun i m σ H=>m=xs.length - i/\i<=xs.length/\Pv i σ H,⟨xs.length,by simp,ay _,h0⟩,?g⟩
 case g=>
 rintro i m σ H ⟨rfl,hi,p⟩
 obtain⟨q1,q2⟩:=hl i σ H hi p
 by_cases hlt:i<xs.length
 ·refine .inr ⟨⟨xs,ys,xs[i],ys[i]'(by omega),q1,q2,by simp [hlt],by simp [show i<ys.length by omega]⟩,Pv (i+1),fun σ' H' p'=>⟨xs.length - (i+1),by omega,rfl,hlt,p'⟩,fun v H' ⟨a,x,y,e1,e2,e3,e4,e5⟩=>?g⟩
  case g=>
  subst e1;subst e3
  exact hs i x y σ H a (e4 xs q1) (e5 ys q2) e2 p
 ·obtain rfl:i=xs.length:=by omega
  exact .inl ⟨⟨xs,ys,q1,q2, .inl (bg _)⟩,hd σ H p⟩
structure aLQ (mg:Str->Option Value):Prop extends Blt mg where
 zip:mg "zip" = none
 repr:mg "repr" = none
 enumerate:mg "enumerate" = none
 reversed:mg "reversed" = none
 str:mg "str" = none
section
variable {prog:Program}{w:World}{A:Around}{E:Value->Shared->Prop}{s:Shared}
end
theorem uM {X:Cx}{K:aa}{o e:Expr}{es:List Expr}{to:TE}{t:TA}{name:Str}{apos cpos:Pos}{T id:String}{r:V->List V->Hp->VK->Prop}(hK:X.K=K)(pa:PlainAttrs T)(slot:Slot T name id)(hty:typeOf (.builtin id)=pure (.type "method_descriptor"))(hm:MtM X id r)(ho:PE X o to)(ha:PA X (e :: es) t)
  (b1:attributeBase o name X.env (eval o X.env)=eval o X.env:=by rfl)
  (b2:((rh cpos (dz (e :: es) X.env)).all (fun x=>!x.1) && (backToKw cpos (zf [] X.env)).all (fun x=>x.1.isSome) && decide ((e :: es).length+([]:List Keyword).length+(if ([]:List Keyword).isEmpty then 0 else 1)<30))=true:=by rfl)
  (b3:(apos.endLine == cpos.line)=true:=by rfl) (b4:dz (e :: es) X.env=(false,eval e X.env) :: dz es X.env:=by rfl) (b5:(rh cpos (dz es X.env)).any (·.1)=false:=by rfl) :
  PE X (.Call (.Attribute o name apos) (e :: es) [] cpos) (tBM K T r to t):=by subst hK;exact aKP pa slot hty hm ho ha b1 b2 b3 b4 b5
def aJW:R2:=fun x y H Q=>(∃ a b,x = .bl a/\y = .bl b/\Q (.bl (a == b)) H)\/(y = .non/\Q (.bl (decide (x = .non))) H)
def aAE:R2:=fun x y H Q=>(∃ a b,x = .bl a/\y = .bl b/\Q (.bl (!(a == b))) H)\/(y = .non/\Q (.bl (!decide (x = .non))) H)
theorem aFZ {X:Cx}:OpR X (gj .Is) aJW:=by
 refine OpR.or (fun pins s σ H x y v u Q I rx ry h=>?g) aIX
 case g=>
 obtain⟨a,b,rfl,rfl,q⟩:=h
 obtain rfl:v=Value.bool a:=rx
 obtain rfl:u=Value.bool b:=ry
 exact wpAny_is_plain (by cases a <;> cases b <;> rfl) (aBw I q (by cases a <;> cases b <;> rfl))
theorem aDt {X:Cx}:OpR X (gj .IsNot) aAE:=by
 refine OpR.or (fun pins s σ H x y v u Q I rx ry h=>?g) aGs
 case g=>
 obtain⟨a,b,rfl,rfl,q⟩:=h
 obtain rfl:v=Value.bool a:=rx
 obtain rfl:u=Value.bool b:=ry
 exact wpAny_isNot_plain (by cases a <;> cases b <;> rfl) (aBw I q (by cases a <;> cases b <;> rfl))
end L2
namespace L2
open PySem
def fI (p:Nat):V := .int (p:Int)
theorem dJ {c:Bool}{A B:Prop}(e:c=true)(h:A):if c=true then A else B:=by rw[if_pos e];exact h
theorem cD {c:Bool}{A B:Prop}(e:c=false)(h:B):if c=true then A else B:=by subst e;exact aLD h
theorem aEf {K:aa}{H:Hp}{a l:Addr}{xs ys:List V}{o:HO}(h:SqT K H a xs)(hl:H l=some (.lst ys)):SqT K (upd H l o) a xs:=by
 have key:∀ u,H a=some u->(∀ zs,u ≠ .lst zs)->upd H l o a=some u:=fun u e n=>by
  rw[bA]
  ·exact e
  ·intro z
   rw[z,hl] at e
   cases e
   exact n _ rfl
 rcases h with (h | ⟨u,h⟩) | h
 ·exact .inl (.inl (key _ h fun _ z=>by cases z))
 ·exact .inl (.inr ⟨u,key _ h fun _ z=>by cases z⟩)
 ·exact .inr h
section
variable {K:aa}{H:Hp}
end
theorem aDa {c:Int}{n:Nat}(h:1<=n):∃ k:Nat,c % (n:Int)=(k:Int)/\k<n:=by
 have g0:=v7 c (show (n:Int)≠0 by omega)
 have g1:=Int.emod_lt_of_pos c (show (0:Int)<(n:Int) by omega)
 obtain⟨k,hk⟩:=Int.eq_ofNat_of_zero_le g0
 exact ⟨k,hk,by omega⟩
def Rows (K:aa) (H:Hp) (xs:List V) (T:List (List Int)):Prop:=xs.length=T.length/\∀ (i:Nat) (row:List Int),T[i]?=some row->∃ b,xs[i]?=some (.ref b)/\SqT K H b (row.map V.int)
section
variable {K:aa}{H H':Hp}{xs:List V}{T:List (List Int)}
theorem Rows.map (h:Rows K H xs T)(f:∀ b row,SqT K H b row->SqT K H' b row):Rows K H' xs T:=⟨h.1,fun i row e=>by
 obtain⟨b,e1,e2⟩:=h.2 i row e
 exact ⟨b,e1,f _ _ e2⟩⟩
theorem Rows.same (h:Rows K H xs T)(e:Same H H'):Rows K H' xs T:=h.map fun _ _ s=>e.tup s
theorem Rows.put (h:Rows K H xs T){l:Addr}{ys:List V}{o:HO}(hl:H l=some (.lst ys)):Rows K (upd H l o) xs T:=h.map fun _ _ s=>aEf s hl
theorem Rows.nil:Rows K H [] []:=⟨rfl,fun i row e=>by cases e⟩
theorem Rows.snoc (h:Rows K H xs T){b:Addr}{r:List Int}(hb:SqT K H b (r.map V.int)):Rows K H (xs++[.ref b]) (T++[r]):=by
 refine ⟨by rw[az,az,h.1];rfl,fun i row e=>?_⟩
 by_cases hi:i<T.length
 ·rw[dj hi] at e
  obtain⟨b',e1,e2⟩:=h.2 i row e
  exact ⟨b',by rw[dj (by rw[h.1];exact hi)];exact e1,e2⟩
 ·rw[da (by omega)] at e
  have:i - T.length=0:=by
   rcases hk:i - T.length with _ | k
   ·rfl
   ·rw[hk] at e;cases e
  rw[this] at e
  cases e
  exact ⟨b,by rw[da (by rw[h.1];omega),h.1,this];rfl,hb⟩
end
end L2
namespace L2
open PySem PySem.Spec PyProof.Rows
section
variable {prog:Program}{w:World}{A:Around}{E:Value->Shared->Prop}{s:Shared}
theorem aCV {b:Bool}{z it l:Addr}{k:Nat}{us:Array Value}{x u:Value}{Q:Value->Shared->Prop}(hne:z≠it)(hz:zk s.heap z it k u)(h1:ItAt b s.heap it l k)(o1:ObAt b s.heap l us)(hx:us[k]?=some x)
  (q:∀ h',IsEnumOut h' z it ((k:Int)+1) x s.heap.objs.size->ItAt b h' it l (k+1)->h'.get? s.heap.objs.size=some { cls := .type "tuple",data := .seq #[.int k s.toks,x] }->h'.objs.size=s.heap.objs.size+1->(∀ c o,c≠z->c≠it->s.heap.get? c=some o->h'.get? c=some o)->Q (.ref s.heap.objs.size) { s with heap:=h',toks:=s.toks+1 }) :
  wpAny (model prog w) A (Builtin.«enumerate.__next__» ⟨[.ref z],[]⟩) (fun fin s'=>∃ r,fin = .done (.ret r)/\Q r s') E s:=by
 show wpAny _ _ (field (.ref z) 2 >>= _) _ _ _;refine ae (gf hz rfl (x := .ref it) rfl (ae (qJ (b:=b) h1 o1 hx fun H1 t1 s1=>?g)))
 case g=>
 have z1:zk H1 z it k u:=s1.extBut _ _ hne hz
 show wpAny _ _ (field (.ref z) 3 >>= _) _ _ _;refine ae (gf z1 rfl (x:=js k) rfl ?g)
 case g=>
 show wpAny _ _ (field (.ref z) 4 >>= _) _ _ _;refine ae (gf z1 rfl (x := .none) rfl ?g)
 case g=>
 show wpAny _ _ (mkInt k >>= _) _ _ _;refine ae (wpAny_mkInt ?g)
 case g=>
 show wpAny _ _ (setField (.ref z) 3 (js ((k:Int)+1)) >>= _) _ _ _;refine ae (gi z1 (by simp) fun H2 z2 s2=>?g)
 case g=>
 replace z2:zk H2 z it ((k:Int)+1) u:=z2
 show wpAny _ _ (setField (.ref z) 4 .none >>= _) _ _ _;refine ae (gi z2 (by simp) fun H3 z3 s3=>?g)
 case g=>
 replace z3:zk H3 z it ((k:Int)+1) u:=z3
 show wpAny _ _ (newTuple [.int k s.toks,x] >>= _) _ _ _;refine ae (tu ?g)
 case g=>
 have sz:H3.objs.size=s.heap.objs.size:=by rw[s3.1,s2.1,s1.1]
 have z4:zk (H3.push { cls := .type "tuple",data := .seq #[.int k s.toks,x] }) z it ((k:Int)+1) u:=aj _ z3
 have lz:z<H3.objs.size:=bo z3
 show wpAny _ _ (fj (.ref z) >>= _) _ _ _;unfold fj;refine ae (ae (gf z4 rfl (x := .none) rfl (ak ?g)))
 case g=>
 simp only [if_true];refine ae (mj (ae (gf z4 rfl (x:=u) rfl (ae (gi z4 (by simp) fun H5 z5 s5=>?g)))))
 case g=>
 replace z5:zk H5 z it ((k:Int)+1) x:=z5
 show wpAny _ _ (h9 (.ref z) (.ref H3.objs.size) >>= _) _ _ _;unfold h9;refine ae (ae (gi z5 (by simp) fun H6 z6 s6=>?g))
 case g=>
 replace z6:IsEnumOut H6 z it ((k:Int)+1) x H3.objs.size:=z6
 refine gi z6 (by simp) fun H7 z7 s7=>?g
 case g=>
 replace z7:IsEnumOut H7 z it ((k:Int)+1) x H3.objs.size:=z7
 have up:∀ c o,c≠z->H3.get? c=some o->H7.get? c=some o:=fun c o n e=>s7.extBut _ _ n (s6.extBut _ _ n (s5.extBut _ _ n (aj _ e)))
 have p7:H7.get? H3.objs.size=some { cls := .type "tuple",data := .seq #[.int k s.toks,x] }:=s7.extBut _ _ (jk lz) (s6.extBut _ _ (jk lz) (s5.extBut _ _ (jk lz) (bh _ rfl)))
 have n7:H7.objs.size=H3.objs.size+1:=by rw[s7.1,s6.1,s5.1,fv]
 rw[sz] at z7 p7 n7
 refine ae (xn (ak ⟨_,rfl,(?g:Q (.ref H3.objs.size) _)⟩))
 case g=>
 rw[sz]
 refine q H7 z7 (t1.keep fun o e=>up _ o hne.symm (s3.extBut _ _ hne.symm (s2.extBut _ _ hne.symm e))) p7 n7 fun c o n m e=>up c o n (s3.extBut _ _ n (s2.extBut _ _ n (s1.extBut _ _ m e)))
theorem aEY {b:Bool}{z it l:Addr}{k:Nat}{us:Array Value}{u:Value}{Q:Fin->Shared->Prop}(hh:A.handled=none)(hz:zk s.heap z it k u)(h1:ItAt b s.heap it l k)(o1:ObAt b s.heap l us)(hx:us[k]?=none)
  (q:∀ h' e,xm it s.heap h'->(∃ o,h'.get? e=some o/\o.cls = .type "StopIteration")->E (.ref e) { s with heap:=h' }) :
  wpAny (model prog w) A (Builtin.«enumerate.__next__» ⟨[.ref z],[]⟩) Q E s:=by
 show wpAny _ _ (field (.ref z) 2 >>= _) _ _ _
 exact ae (gf hz rfl (x := .ref it) rfl (ae (aAJ (b:=b) hh h1 o1 hx q)))
end
def Ite (K : aa) (b : Bool) (l : Addr) : It :=
  ⟨fun i H => ∃ xs x, SqB b K H l xs /\ xs[i]? = some x,
   fun i H v H' => ∃ p x, v = .ref p /\ H p = none /\ H' = upd H p (.tup [.int (i : Int), x]) /\ ∀ xs, SqB b K H l xs -> xs[i]? = some x,
   fun i H => ∃ xs, SqB b K H l xs /\ xs.length <= i⟩
def eTn (b:Bool) (z it l:Addr) (i:Nat) (h:Heap):Prop:=(∃ u,zk h z it i u)/\ItAt b h it l i
theorem aDd {P:Program}{w:World}{K:aa}{es:List Expr}{k:Nat}{pos:Pos}{b:Bool}{z it l:Addr}(hne:z≠it) :
  aGi P w K (.Tuple es k pos) (Ite K b l) [z,it] z (eTn b z it l) where
 mem:=by simp
 obj:=fun i h ⟨⟨u,h1⟩,⟨o2,h2,_,d2⟩⟩ c hb=>by
  simp only [dk,jg,or_false] at hb
  rcases hb with rfl | rfl
  ·exact ⟨_,h1,fun v q=>by cases q⟩
  ·exact ⟨_,h2,fun v q=>by rw[d2] at q;cases q⟩
 keep:=fun i h h' ⟨⟨u,h1⟩,h2⟩ kp=>⟨⟨u,kp z (by simp) _ h1⟩,h2.keep fun o e=>kp it (by simp) o e⟩
 item:=by
  intro X hP hw hK hc i pins s σ H E I hf st hg
  subst hP hw hK
  obtain⟨⟨u0,h1⟩,h2⟩:=st
  obtain⟨xs,x,q1,hx⟩:=hg
  obtain⟨us,r1,o1,z1⟩:=I.obAt q1
  obtain⟨ux,hux,rx⟩:=r1.get hx
  have hT:s.TypeIs (.ref z) "enumerate":=⟨_,h1,rfl⟩
  unfold vf
  refine ae (ky (fg (name:=j4 "__next__") hT md (e8 md hT vq (aCV hne h1 h2 o1 (by simpa using hux) fun h' g1 g2 g3 g4 kp=>ak ⟨_,rfl,?g⟩) (uz _))))
  case g=>
  refine wpAny_letOwnedTupleGo_enum (s:={ s with heap:=h',toks:=s.toks+1 }) g1 fun h2' g1' sb=>?g
  case g=>
  have lt:∀ c∈[z,it],c<s.heap.objs.size:=fun c hb=>by
   simp only [dk,jg,or_false] at hb
   rcases hb with rfl | rfl
   ·exact bo h1
   ·exact h2.lt
  have kb:∀ c o,c∉[z,it]->s.heap.get? c=some o->h'.get? c=some o:=fun c o n e=>kp c o (fun q=>n (by simp [q])) (fun q=>n (by simp [q])) e
  have hn:H s.heap.objs.size=none:=I.hok.fresh (bg _)
  have I1:Inv X pins σ (upd H s.heap.objs.size (.tup [.int (i:Int),x])) { s with heap:=s.heap.push { cls := .type "tuple",data := .seq #[.int i s.toks,ux] },toks:=s.toks+1 }:=
   I.laid (t':=s.toks+1) (fun c o e=>aj _ e) (bg _) (show ObjOk X.prog X.w _ _ _ (.tup [.int (i:Int),x]) from ⟨show 2<=ba by decide,[.int i s.toks,ux], .cons ⟨_,rfl⟩ (.cons rx .nil),TupN.new _ _⟩)
  have hf1:∀ c∈[z,it],FpOk X pins (upd H s.heap.objs.size (.tup [.int (i:Int),x])) c:=fun c hb=>by
   obtain⟨f0,f⟩:=hf c hb
   exact ⟨by rw[bA (di (lt c hb))];exact f0,f⟩
  have I2:Inv X pins σ (upd H s.heap.objs.size (.tup [.int (i:Int),x])) { s with heap:=h',toks:=s.toks+1 }:=I1.turnedL (t':=s.toks+1) hf1 fun c o nb e=>by
   rcases wx e with ⟨eb,eo⟩ | e
   ·subst eb;subst eo
    exact g3
   ·exact kb c o nb e
  have I3:Inv X pins σ (upd H s.heap.objs.size (.tup [.int (i:Int),x])) { s with heap:=h2',toks:=s.toks+1 }:=I2.turnedL (t':=s.toks+1) hf1 fun c o nb e=>sb.extBut _ _ (fun q=>nb (by simp [q])) e
  exact ⟨.ref s.heap.objs.size,_,I3,rfl,⟨_,x,rfl,hn,rfl,fun xs' e=>by rw[I.sqB_inj e q1];exact hx⟩,
   ⟨⟨_,by simpa using g1'⟩,g2.keep fun o e=>sb.extBut _ _ hne.symm e⟩,fun c hb=>(hf1 c hb).1⟩
 done:=by
  intro X hP hw hK hc i pins s σ H E I hf st hg
  subst hP hw hK
  obtain⟨⟨u0,h1⟩,h2⟩:=st
  obtain⟨xs,q1,hl⟩:=hg
  obtain⟨us,r1,o1,z1⟩:=I.obAt q1
  have l1':=r1.length
  have hT:s.TypeIs (.ref z) "enumerate":=⟨_,h1,rfl⟩
  unfold vf
  refine ae (ky (fg (name:=j4 "__next__") hT md (e8 md hT vq (aEY (I.ok.hd hc) h1 h2 o1 (by simp;omega) fun h' e kp ⟨o,e1,e2⟩=>?g) (uz _))))
  case g=>
  refine ae (jx (T:="StopIteration") (b:=true) ⟨o,e1,e2⟩ xg (ak ⟨rfl,?g⟩))
  case g=>
  exact I.turnedL (t':=s.toks) hf fun c o n e=>kp c o (fun q=>n (by simp [q])) e
 self:=fun _ _ _ _ _ st q=>let ⟨⟨_,h1⟩,_⟩:=st;wpAny_pyIter_enum h1 q
abbrev eH (h:Heap) (b:Bool) (l:Addr):Heap:=(h.push (itO b l)).push { cls := .type "enumerate",data := .fields #[.none, .bool false, .ref h.objs.size,js 0, .none, .none] }
theorem aFz (b:Bool)(l:Addr)(xs:Array Value)(o:Obj) :
  Meets (Builtin.«enumerate.__new__» ⟨[.type "enumerate", .ref l],[]⟩) (fun _ R s=>s.heap.get? l=some o/\ObAt b s.heap l xs/\R (.ok (.ret (.ref (s.heap.push (itO b l)).objs.size))) { s with heap:=eH s.heap b l }):=
 .of_wp fun prog w A R s h=>by
  obtain⟨s1,s2,s3,s4,s5⟩:=s
  obtain⟨m0,m1,q⟩:=h
  have hsub:=sub_enumerate
  have n1:ObAt b (zj ⟨s1,s2,s3,s4,s5⟩) l xs:=m1
  wp_walk using jf m0
  refine wpAny_stack_any fun st=>ak ?_
  split
  ·rename_i cc _ _ _ _ _
   cases (cc == Value.type "enumerate") <;>
   ·wp_walk using jf m0,qI n1
    exact ⟨_,rfl,q⟩
  ·wp_walk using jf m0,qI n1
   exact ⟨_,rfl,q⟩
theorem aDS {prog:Program}{w:World}{A:Around}{E:Value->Shared->Prop}{s:Shared}{b:Bool}{l:Addr}{xs:Array Value}{Q:Value->Shared->Prop}(o1:ObAt b s.heap l xs)
  (q:∀ h',eTn b (s.heap.objs.size+1) s.heap.objs.size l 0 h'->(∀ c o,s.heap.get? c=some o->h'.get? c=some o)->Q (.ref (s.heap.objs.size+1)) { s with heap:=h' }) :
  wpAny (model prog w) A (call (.type "enumerate") [.ref l]) Q E s:=by
 obtain⟨o,e0,ec,n,ed⟩:=id o1
 refine callType_new F.called_enumerate (by decide) (F.typeCall_enumerate_1 _) (F.newCall_enumerate_1 _) (fun ob=>F.args_object_init_2 ob _) F.entry_enumerate_new (aFz b l xs o) ⟨e0,o1,?g⟩
 case g=>
 have z1:(s.heap.push (itO b l)).objs.size=s.heap.objs.size+1:=fv ..
 have g2:(eH s.heap b l).get? (s.heap.push (itO b l)).objs.size=some _:=bh _ rfl
 have g1:(eH s.heap b l).get? s.heap.objs.size=some _:=aj _ (bh _ rfl)
 rw[z1] at g2
 show _/\_
 rw[z1]
 exact ⟨⟨_,g2,rfl⟩,q _ ⟨⟨_,g2⟩,⟨_,g1,rfl,rfl⟩⟩ fun c o x=>aj _ (aj _ x)⟩
def aFD (K:aa) (ta:TA):TI:=fun σ H R=>ta σ H fun vs H1=>∃ l b,vs=[.ref l]/\(∃ xs,SqB b K H1 l xs)/\R (Ite K b l) H1
theorem yJ:d9 "enumerate" = some (.type "enumerate"):=by decide +kernel
theorem aGw {X:Cx}{es:List Expr}{k:Nat}{po:Pos}{a:Expr}{ta:TA}{p pos:Pos}(hg:Gl X "enumerate")(hm:X.mg "enumerate" = none)(ha:PA X [a] ta)(hs:dz [a] X.env=[(false,eval a X.env)]:=by rfl) :
  PI X (.Tuple es k po) (.Call (.Name "enumerate" p) [a] [] pos) (aFD X.K ta):=by
 intro pins s σ H R I h
 refine Call_ (rH I hg hm yJ (iz (thn (ha pos pins s σ H _ I h) fun us s1 ⟨vs,H1,I1,r1,q1⟩=>?g) hs rfl))
 case g=>
 obtain⟨l,b,e,⟨xs,q2⟩,q⟩:=q1
 subst e
 obtain⟨u1,rfl,e1⟩:=xX r1
 obtain rfl:u1=Value.ref l:=e1
 obtain⟨x1,v1,o1,_⟩:=I1.obAt q2
 refine aDS o1 fun h' zt kp=>?g
 case g=>
 obtain⟨⟨u0,zt1⟩,zt2⟩:=id zt
 refine wpAny_pyIter_enum (s:={ s1 with heap:=h' }) zt1 ?g
 case g=>
 refine ⟨_,[s1.heap.objs.size+1,s1.heap.objs.size],_,_,H1,rfl,I1.kept (t':=s1.toks) kp,aDd (jk (jv _)),zt,fun c hb=>?g,q⟩
 case g=>
 have lb:s1.heap.objs.size<=c:=by
  simp only [dk,jg,or_false] at hb
  rcases hb with rfl | rfl <;> first | exact jh _ _ | exact bg _
 exact I1.fpOk lb (I1.hok.fresh lb)
theorem aBG {X:Cx}{K:aa}{es:List Expr}{k:Nat}{po:Pos}{a:Expr}{ta:TA}{p pos:Pos}(hK:X.K=K)(hg:Gl X "enumerate")(hm:X.mg "enumerate" = none)(ha:PA X [a] ta)(hs:dz [a] X.env=[(false,eval a X.env)]:=by rfl) :
  PI X (.Tuple es k po) (.Call (.Name "enumerate" p) [a] [] pos) (aFD K ta):=by subst hK;exact aGw hg hm ha hs
theorem aBL {K:aa}{b:Bool}{l:Addr}{xs:List V}{g:TG}{tb:TS}{D:lO}{σ:St}{H:Hp}(Pv:Nat->St->Hp->Prop)(h0:Pv 0 σ H)(hl:∀ i σ H,i<=xs.length->Pv i σ H->SqB b K H l xs)
  (hs:∀ i x σ H p,xs[i]?=some x->H p=none->Pv i σ H->g (.ref p) σ (upd H p (.tup [.int (i:Int),x])) fun σ2 H2=>tb { D with nx:=Pv (i+1),ct:=Pv (i+1),bk:=D.nx } σ2 H2) (hd:∀ σ H,Pv xs.length σ H->D.nx σ H) :
  iO (Ite K b l) g tb D σ H:=by
 refine ⟨fun i m σ H=>m=xs.length - i/\i<=xs.length/\Pv i σ H,⟨xs.length,by simp,ay _,h0⟩,?g⟩
 case g=>
 rintro i m σ H ⟨rfl,hi,p⟩
 have q1:=hl i σ H hi p
 by_cases hlt:i<xs.length
 ·refine .inr ⟨⟨xs,xs[i],q1,by simp [hlt]⟩,Pv (i+1),fun σ' H' p'=>⟨xs.length - (i+1),by omega,rfl,hlt,p'⟩,fun v H' ⟨a,x,e1,e2,e3,e4⟩=>?g⟩
  case g=>
  subst e1;subst e3
  exact hs i x σ H a (e4 xs q1) e2 p
 ·obtain rfl:i=xs.length:=by omega
  exact .inl ⟨⟨xs,q1,bg _⟩,hd σ H p⟩
end L2
namespace L2
open PySem
section
variable {X:Cx}{es:List Expr}{te:TE}{t:TA}
theorem aV {c:Const}{k:Nat}{p:Pos}(ha:PE X (.Constant c k p) te)(hr:PA X es t):PA X (.Constant c k p :: es) (aC te t):=cL ha hr
theorem aB {n:Str}{p:Pos}(ha:PE X (.Name n p) te)(hr:PA X es t):PA X (.Name n p :: es) (aC te t):=cL ha hr
theorem kL {l:List Expr}{p:Pos}(ha:PE X (.List l p) te)(hr:PA X es t):PA X (.List l p :: es) (aC te t):=cL ha hr
theorem cU {l:List Expr}{k:Nat}{p:Pos}(ha:PE X (.Tuple l k p) te)(hr:PA X es t):PA X (.Tuple l k p :: es) (aC te t):=cL ha hr
theorem dU {a b:Expr}{o:Operator}{p:Pos}(ha:PE X (.BinOp a o b p) te)(hr:PA X es t):PA X (.BinOp a o b p :: es) (aC te t):=cL ha hr
theorem aFB {a:Expr}{o:UnaryOp}{p:Pos}(ha:PE X (.UnaryOp o a p) te)(hr:PA X es t):PA X (.UnaryOp o a p :: es) (aC te t):=cL ha hr
theorem cQ {a b:Expr}{p:Pos}(ha:PE X (.Subscript a b p) te)(hr:PA X es t):PA X (.Subscript a b p :: es) (aC te t):=cL ha hr
theorem bJ {a:Expr}{l:List Expr}{kw:List Keyword}{p:Pos}(ha:PE X (.Call a l kw p) te)(hr:PA X es t):PA X (.Call a l kw p :: es) (aC te t):=cL ha hr
end
mutual
def aKn:Dt->Bool
 | .tup ds=>decide (ds.length<64) && aGo ds
 | .lst ds=>aGo ds
 | _=>true
def aGo:List Dt->Bool
 | []=>true
 | d :: ds=>aKn d && aGo ds
end
def okM (m e:Nat) (d:Dt):Prop:=(toP d).showable=true/\(toP d).leavesShort 1930=true/\(toP d).bulk<=m/\dep d<=e/\aKn d=true
def Am (K:aa) (H:Hp) (m e:Nat) (x:V):Prop:=∃ d,Sh K H d x/\okM m e d
def Goo (K:aa) (H:Hp) (v:V):Prop:=∃ d,Sh K H d v/\okR d/\aKn d=true
section
variable {K:aa}{H H':Hp}
theorem Am.same {m e:Nat}{x:V}(s:Same H H'):Am K H m e x->Am K H' m e x:=fun ⟨d,h,o⟩=>⟨d,h.same s,o⟩
theorem Goo.same {v:V}(s:Same H H'):Goo K H v->Goo K H' v:=fun ⟨d,h,o⟩=>⟨d,h.same s,o⟩
def Tu (K:aa) (H:Hp) (m e k:Nat) (v:V):Prop:=∃ a xs,v = .ref a/\SqT K H a xs/\xs.length<=k/\∀ x∈xs,Am K H m e x
theorem Tu.same {m e k:Nat}{v:V}(s:Same H H'):Tu K H m e k v->Tu K H' m e k v:=fun ⟨a,xs,h1,h2,h3,h4⟩=>⟨a,xs,h1,s.tup h2,h3,fun x hx=>(h4 x hx).same s⟩
end
theorem aBH {c:Int}{n k:Nat}{H:Hp}{Q:VK}(h:1<=n)(e:c % (n:Int)=(k:Int))(q:Q (.int (k:Int)) H):aAG (.int c) (.int (n:Int)) H Q:=⟨_,_,rfl,rfl,by omega,by show Q (.int (c % (n:Int))) H;rw[e];exact q⟩
end L2
namespace L2
open PySem PySem.Spec PyProof.Rows
inductive vA:List (Value × Value)->List (Int × Int)->Prop
 | nil:vA [] []
 | cons (a b:Int) (t u:Tok) {r:List (Value × Value)} {zs:List (Int × Int)}:vA r zs->vA ((.int a t, .int b u) :: r) ((a,b) :: zs)
def aEC (f:Bool):List (Int × Int)->Bool
 | []=>f
 | (a,b) :: r=>if a=b then aEC f r else decide (a<b)
theorem aDb {prog:Program}{w:World}{A:Around}{E:Value->Shared->Prop}{s:Shared}{a b:Int}{t u:Tok}{Q:Value->Shared->Prop}(h:Q (.bool (decide (a<b))) s):wpAny (model prog w) A (zd .Lt (.int a t) (.int b u)) Q E s:=lt_int h
theorem aCO (l b:Addr)(us vs:Array Value)(n n2:Nat)(dd dd2:Option Addr)(sl sl2:Array (Option Value))(zs:List (Int × Int))(hz:vA (us.toList.zip vs.toList) zs) :
  Meets (Builtin.«tuple.__lt__» ⟨[.ref l, .ref b],[]⟩)
   (fun _ R s=>s.heap.get? l=some { cls := .type "tuple",dict:=dd,data := .seq us n,slots:=sl }/\s.heap.get? b=some { cls := .type "tuple",dict:=dd2,data := .seq vs n2,slots:=sl2 }/\R (.ok (.ret (.bool (aEC (decide (us.size<vs.size)) zs)))) s):=
 .of_wp fun prog w A R s h=>by
  obtain⟨s1,s2,s3,s4,s5⟩:=s
  obtain⟨gl,gb,h⟩:=h
  have f2:=ub
  wp_walk using jf gl,jf gb,vg _ (fun rest b s'=>b.1=none/\s'=⟨s1,s2,s3,s4,s5⟩/\∃ ys,vA rest ys/\R (.ok (.ret (.bool (aEC (decide (us.size<vs.size)) ys)))) ⟨s1,s2,s3,s4,s5⟩) _
  case turn=>
   rintro ⟨y,x⟩ rest b s' ⟨hb',rfl,ys,hy,hR⟩
   cases hy with
   | cons p q t u hr=>
    refine ae (ve ?_)
    by_cases e:p=q
    ·rw[show (p == q)=true by simpa using e]
     rw[aEC,if_pos e] at hR
     wp_walk
     exact ⟨rfl,rfl,_,hr,hR⟩
    ·rw[show (p == q)=false by simpa using e]
     rw[aEC,if_neg e] at hR
     wp_walk using aDb
     exact ⟨_,rfl,hR⟩
  case fin=>
   rintro ⟨b1,b2⟩ s' ⟨hb',rfl,ys,hy,hR⟩
   simp only at hb'
   subst hb'
   cases hy
   wp_walk
   exact ⟨_,rfl,hR⟩
  case h=>
   exact ⟨rfl,rfl,zs,hz,h⟩
section
variable {prog:Program}{w:World}{A:Around}{R:vv->Shared->Prop}{It:Addr}{fp wr:List Addr}{n:Nat}{P:Nat->Value->Prop}{St:Nat->Heap->Prop}
end
section
variable {prog:Program}{w:World}{A:Around}{E:Value->Shared->Prop}{s:Shared}
end
def lexL:List Int->List Int->Bool
 | [],[]=>false
 | [],_ :: _=>true
 | _ :: _,[]=>false
 | a :: r,b :: q=>if a=b then lexL r q else decide (a<b)
theorem aDj:∀ (ns ms:List Int),aEC (decide (ns.length<ms.length)) (ns.zip ms)=lexL ns ms
 | [],[]=>rfl
 | [],m :: ms=>by simp [aEC,lexL]
 | n :: ns,[]=>by simp [aEC,lexL]
 | n :: ns,m :: ms=>by
  rw[rl,aEC,lexL,<- aDj ns ms]
  have:decide ((n :: ns).length<(m :: ms).length)=decide (ns.length<ms.length):=by
   by_cases h:ns.length<ms.length <;> simp [h]
  rw[this]
theorem mQ:∀ ns:List Int,lexL ns ns=false
 | []=>rfl
 | n :: ns=>by rw[lexL,if_pos rfl];exact mQ ns
theorem oJ:∀ {a b c:List Int},lexL a b=true->lexL b c=true->lexL a c=true
 | [],[],_,h,_=>by cases h
 | [],_ :: _,[],_,h=>by cases h
 | [],_ :: _,_ :: _,_,_=>rfl
 | _ :: _,[],_,h,_=>by cases h
 | _ :: _,_ :: _,[],_,h=>by cases h
 | x :: a,y :: b,z :: c,h1,h2=>by
  rw[lexL] at h1 h2 ⊢
  by_cases e1:x=y <;> by_cases e2:y=z
  ·subst e1 e2
   rw[if_pos rfl] at h1 h2 ⊢
   exact oJ h1 h2
  ·subst e1
   rw[if_neg e2] at h2 ⊢
   exact h2
  ·subst e2
   rw[if_neg e1] at h1 ⊢
   exact h1
  ·rw[if_neg e1] at h1
   rw[if_neg e2] at h2
   have g1:=of_decide_eq_true h1
   have g2:=of_decide_eq_true h2
   rw[if_neg (by omega)]
   exact decide_eq_true (by omega)
theorem aGd:∀ {ns ms:List Int} {us vs:List Value},IntsAre us ns->IntsAre vs ms->vA (us.zip vs) (ns.zip ms)
 | [],_,_,_,h,_=>by cases h;exact .nil
 | _ :: _,[],_,_,h,g=>by cases g;cases h;exact .nil
 | n :: ns,m :: ms,_,_,h,g=>by
  cases h with
  | cons _ t h=>
   cases g with
   | cons _ u g=>exact .cons n m t u (aGd h g)
theorem aGu {prog:Program}{w:World}{A:Around}{E:Value->Shared->Prop}{s:Shared}{a b:Addr}{us vs:List Value}{ns ms:List Int}{Q:Value->Shared->Prop}(hu:A.units<cLine)(ha:IsTup s.heap a us.toArray)(hb:IsTup s.heap b vs.toArray)(h1:IntsAre us ns)(h2:IntsAre vs ms)(q:Q (.bool (lexL ns ms)) s) :
  wpAny (model prog w) A (zd .Lt (.ref a) (.ref b)) Q E s:=by
 obtain⟨⟨oc,od,odt,osl⟩,e1,c1,n1,d1⟩:=ha
 obtain⟨⟨pc,pd,pdt,psl⟩,e2,c2,n2,d2⟩:=hb
 subst c1 d1 c2 d2
 refine vm (op := .Lt) ⟨_,e1,rfl⟩ ⟨_,e2,rfl⟩ F.slot_tuple_lt F.entry_tuple_lt (F.args_tuple_lt_2 _ _) (aCO a b us.toArray vs.toArray n1 n2 od pd osl psl (ns.zip ms) (aGd h1 h2)) ⟨e1,e2,?g⟩ hu
 case g=>
 have l1:=IntsAre.len h1
 have l2:=IntsAre.len h2
 rw[aq,aq,l1,l2,aDj]
 exact ⟨fun z=>(by cases z),q⟩
abbrev aHY:List V->Hp->VK->Prop:=fun xs H Q=>(∃ i,xs=[.int i]/\Q (.int i) H)\/∃ k,xs=[.bl k]/\Q (.int (if k then 1 else 0)) H
theorem aCk {X:Cx}:CallR X (.type "int") aHY:=aCK
section
variable {prog:Program}{w:World}{A:Around}{E:Value->Shared->Prop}{s:Shared}
end
section
variable {prog:Program}{w:World}{A:Around}{E:Value->Shared->Prop}{s:Shared}
end
end L2
namespace L2
open PySem
end L2
namespace L2
open PySem PySem.Spec PyProof.Rows
section
variable {prog:Program}{w:World}{A:Around}{E:Value->Shared->Prop}{s:Shared}
end
section
variable {X:Cx}
end
end L2
namespace L2
open PySem
section
variable {X:Cx}
end
end L2
namespace L2
open PySem PySem.Spec PyProof.Rows
section
variable {prog:Program}{w:World}{A:Around}{E:Value->Shared->Prop}{s:Shared}
end
section
variable {X:Cx}
end
section
variable {X:Cx}
end
end L2
namespace L2
open PySem
structure aLS (mg:Str->Option Value):Prop extends aLQ mg where
 set:mg "set" = none
theorem aIO:d9 "set" = some (.type "set"):=by decide +kernel
section
variable {X:Cx}
def aKU (K:aa) (ta:TE):TT:=fun σ H Q=>ta σ H fun x H'=>∃ k,aKN K x H' k/\Q k H'
theorem aHj {K:aa}{a:Expr}{ta:TE}(hK:X.K=K)(ha:PE X a ta)(he:∀ whole,isTrue a X.env whole=(do let v <- whole;xj a.pos;vt [v] (truthy v))):PT X a (aKU K ta):=by
 subst hK
 exact aFJ ha he
end
structure iC (mg:Str->Option Value):Prop extends aLS mg where
 abs:mg "abs" = none
theorem aBo:d9 "abs" = some (.builtin "abs"):=by decide +kernel
def aCw:List V->Hp->VK->Prop:=fun xs H Q=>∃ i:Int,xs=[.int i]/\Q (.int (if i<0 then -i else i)) H
theorem mT {X:Cx}:CallR X (.builtin "abs") aCw:=aFa
section
variable {vars:List Nat}{tb:TS}{acc a:Addr}{σ:St}{H:Hp}{j:Nat}{D:lO}{K:aa}
end
def EmR (K:aa) (vars:List Nat) (tb:TS) (acc:Addr) (σ:St) (H:Hp) (L:List (List Int)):Prop:=
 ∀ (D:lO) (pre:List V) (R:List (List Int)),H acc=some (.lst pre)->Rows K H pre R->R.length+L.length<=100000->(∀ σ' H' pre',σ'.length=σ.length->Agree vars σ σ'->SameX acc H H'->H' acc=some (.lst pre')->Rows K H' pre' (R++L)->D.nx σ' H')->tb D σ H
section
variable {K:aa}{vars:List Nat}{tb:TS}{acc:Addr}{σ:St}{H:Hp}
theorem EmR.cast {L L':List (List Int)}(h:EmR K vars tb acc σ H L)(e:L=L'):EmR K vars tb acc σ H L':=e ▸ h
theorem aCP {ta:TA}{r:List Int}(hr:r.length<=100)(h:∀ Q:List V->Hp->Prop,Q (r.map V.int) H->ta σ H Q):EmR K vars (dI (iN ta) acc) acc σ H [r]:=by
 intro D pre R ha hR hz hd
 refine h _ ⟨by rw[af];exact dg hr (by decide),fun t ht=>?_⟩
 have st:=aG ht (.tup (r.map V.int))
 have ha':=st _ _ ha
 refine ⟨pre,ha',bq (show pre.length<=100000 by rw[hR.1];omega) (by decide),?_⟩
 exact hd σ _ _ rfl (Agree.refl _ _) (st.x.trans (SameX.put _)) aD (Rows.snoc (Rows.put (hR.same st) ha') (aEf (.of aD) ha'))
theorem wX {lo:Int}{n j:Nat}{L:Nat->List (List Int)}(hj:j∈vars)(hjl:j<σ.length)
  (h:∀ i σ' H',i<n->σ'.length=σ.length->Agree vars σ σ'->σ'[j]?=some (some (.int (lo+(i:Int))))->SameX acc H H'->EmR K vars tb acc σ' H' (L i)) :
  EmR K vars (iO (Itr lo n) (aK j) tb) acc σ H ((av n).flatMap L):=by
 intro D pre R ha hR hz hd
 refine dP (lo:=lo) (n:=n) (g:=aK j) (D:=D) (fun i σ' H'=>i<=n/\σ'.length=σ.length/\Agree vars σ σ'/\SameX acc H H'/\∃ pre',H' acc=some (.lst pre')/\Rows K H' pre' (R++(av i).flatMap L)) ⟨ay _,rfl,Agree.refl _ _,SameX.refl _ _,pre,ha,by simpa using hR⟩ (fun i σ1 H1 hi ⟨_,hl1,ag1,sx1,pre1,h1,r1⟩=>?_) fun σ1 H1 ⟨_,hl1,ag1,sx1,pre1,h1,r1⟩=>hd σ1 H1 pre1 hl1 ag1 sx1 h1 r1
 have hle:=dC L (show i+1<=n from hi)
 rw[aT,az] at hle
 refine h i (σ1.set j (some (.int (lo+(i:Int))))) H1 hi (by rw[cv];exact hl1) (ag1.trans (Agree.set hj _)) (iJ (by omega)) sx1 _ pre1 _ h1 r1 (by rw[az];omega) fun σ' H' pre' hl ag sx h2 r2=>⟨hi,hl.trans ((cv ..).trans hl1),(ag1.trans (Agree.set hj _)).trans ag,sx1.trans sx,pre',h2,by rw[aT,<- ip];exact r2⟩
theorem aGq {ti:TI}{lo:Int}{n j:Nat}{L:Nat->List (List Int)}(hti:∀ R:It->Hp->Prop,R (Itr lo n) H->ti σ H R)(hj:j∈vars)(hjl:j<σ.length)
  (h:∀ i σ' H',i<n->σ'.length=σ.length->Agree vars σ σ'->σ'[j]?=some (some (.int (lo+(i:Int))))->SameX acc H H'->EmR K vars tb acc σ' H' (L i)) :
  EmR K vars (tK ti (aK j) tb) acc σ H ((av n).flatMap L):=by
 intro D pre R ha hR hz hd
 exact hti _ (wX hj hjl h D pre R ha hR hz hd)
theorem aBD (vars:List Nat)(L:List (List Int)){g:TG}{J:It}{D:lO}(ha:H acc=none)(hz:L.length<=100000)(h:EmR K vars (iO J g tb) acc σ (upd H acc (.lst [])) L)
  (q:∀ σ' H' pre,Same H H'->H' acc=some (.lst pre)->Rows K H' pre L->D.nx σ' H'):iO J g tb D σ (upd H acc (.lst [])):=
 h _ [] [] aD Rows.nil (by simpa using hz) fun σ' H' pre' _ _ sx h1 h2=>q σ' H' pre' (cT ha sx) h1 (by simpa using h2)
end
end L2
namespace L2
open PySem PySem.Spec PyProof.Rows
open PySem.SeqAt
def EqA (A:Around) (s:Shared) (u v:Value) (b:Bool):Prop:=∀ (prog:Program) (w:World) (E:Value->Shared->Prop) (Q:Bool->Shared->Prop),Q b s->wpAny (model prog w) A (eqBool u v) Q E s
theorem gT:∀ r:List Int,aAe (r.map Dt.int)=0
 | []=>rfl
 | a :: r=>by rw[d3,aAe,gT r];rfl
theorem qF:∀ {r q:List Int},eqL (r.map Dt.int) (q.map Dt.int)=true->r=q
 | [],[],_=>rfl
 | [],_ :: _,h=>by simp [eqL] at h
 | _ :: _,[],h=>by simp [eqL] at h
 | a :: r,b :: q,h=>by
  rw[d3,d3,eqL,du] at h
  have h1:a=b:=by have:=h.1;rw[eqD] at this;exact yb this
  rw[h1,qF h.2]
theorem aAC:∀ {us:List Value} {ns:List Int},IntsAre us ns->∀ j (h:j<us.length),∃ t,us[j] = .int (ns.getD j 0) t
 | _,_, .nil,j,h=>absurd h (lx _)
 | _,_, .cons n t h,0,_=>⟨t,rfl⟩
 | _,_, .cons n t h,j+1,hj=>by
  obtain⟨t',e⟩:=aAC h j (by simpa using hj)
  exact ⟨t',by simpa using e⟩
theorem aAZ:∀ {us:List Value} {ns ms:List Int},IntsAre us ns->IntsAre us ms->ns=ms
 | _,_,_, .nil, .nil=>rfl
 | _,_,_, .cons n t h, .cons _ _ g=>by rw[aAZ h g]
theorem aAS {A:Around}{s:Shared}{c d:Addr}{us vs:List Value}{r q:List Int}(hu:A.units<cLine)(hc:IsTup s.heap c us.toArray)(hd:IsTup s.heap d vs.toArray)(h1:IntsAre us r)(h2:IntsAre vs q):EqA A s (.ref c) (.ref d) (eqL (r.map Dt.int) (q.map Dt.int)):=by
 by_cases hcd:c=d
 ·subst hcd
  have e:us=vs:=by
   obtain⟨o,e1,_,n,e2⟩:=hc
   obtain⟨o',e3,_,m,e4⟩:=hd
   rw[e1] at e3
   cases e3
   rw[e2] at e4
   have e5:us=vs/\n=m:=by simpa using e4
   exact e5.1
  subst e
  rw[aAZ h1 h2,fX]
  exact EqAt.same _
 ·have l1:=IntsAre.len h1
  have l2:=IntsAre.len h2
  have he:∀ (j:Nat) (h1:j<us.toArray.size) (h2:j<vs.toArray.size),EqAt A.in1 s us.toArray[j] vs.toArray[j] (eqD ((r.map Dt.int).getD j .non) ((q.map Dt.int).getD j .non)):=fun j g1 g2=>by
   have g1:j<us.length:=by simpa using g1
   have g2:j<vs.length:=by simpa using g2
   obtain⟨t1,e1⟩:=aAC h1 j g1
   obtain⟨t2,e2⟩:=aAC h2 j g2
   have q1:(r.map Dt.int).getD j .non = .int (r.getD j 0):=by
    rw[ao,cf,ao,ah (by omega)]
    rfl
   have q2:(q.map Dt.int).getD j .non = .int (q.getD j 0):=by
    rw[ao,cf,ao,ah (by omega)]
    rfl
   have e1':us.toArray[j] = .int (r.getD j 0) t1:=by simpa using e1
   have e2':vs.toArray[j] = .int (q.getD j 0) t2:=by simpa using e2
   rw[q1,q2,e1',e2',eqD]
   exact EqAt.int_int _ _ _ _
  have rc:=RcAt.tuples (A:=A) hc hd hu he
  rw[aq,aq,l1,l2] at rc
  have:=oN (r.map Dt.int) (q.map Dt.int)
  rw[af,af] at this
  rw[this] at rc
  exact EqAt.of_refs hcd rc
section
variable {X:Cx}{tg:Expr}
end
section
variable {X:Cx}{pins:List (Addr × Obj)}{σ:St}{H:Hp}{s:Shared}
end
theorem KV.len {κ:Type}:∀ {l:List (κ × V)} {m:List (κ × Value)},KV l m->l.length=m.length
 | _,_, .nil=>rfl
 | _,_, .cons _ t=>by rw[dm,dm,KV.len t]
theorem KV.at {κ:Type}:∀ {l:List (κ × V)} {m:List (κ × Value)},KV l m->∀ {i:Nat} {k:κ} {x:Value},m[i]?=some (k,x)->∃ v,l[i]?=some (k,v)
 | _,_, .nil,_,_,_,h=>by cases h
 | _,_, .cons (a:=p) (b:=q) r t,0,k,x,h=>by
  have e:q=(k,x):=by simpa using h
  exact ⟨p.2,by rw[List.getElem?_cons_zero,show p=(k,p.2) from y2 (by rw[r.1,e]) rfl]⟩
 | _,_, .cons _ t,i+1,k,x,h=>KV.at t (i:=i) (by simpa using h)
structure aFW (K:aa)(C:Addr):Prop where
 ga:ic K (.ref C) "__getattribute__" = some (some (.builtin "BaseException.__getattribute__"))
 gn:ic K (.ref C) "__getattr__" = some none
 cl:ic K (.ref C) "__class__" = some (some (.builtin "object.__class__"))
 gt:o3 K (.builtin "object.__class__") "__get__" = some (some (.builtin "getset_descriptor.__get__"))
 tk:qv K (.builtin "object.__class__")=some true
 ob:qj K C (.type "object")=some true
 bx:u3 K (.ref C) (.type "BaseException")=some true
 is:(nr K C).isSome=true
def XAt (h:Heap) (x C:Addr):Prop:=∃ o,h.get? x=some o/\o.cls = .ref C
section
open Builtin Builtin.ObjectAttr Builtin.Getset_descriptor
variable {prog:Program}{w:World}{A:Around}{E:Value->Shared->Prop}{s:Shared}{K:aa}{x C:Addr}{R:vv->Shared->Prop}
theorem XAt.type {M:Model}{h:Heap}(I:XAt h x C):mm M h (typeOf (.ref x)) (.ref C):=by
 obtain⟨o,e,c⟩:=I
 exact c ▸ (PySem.W.Looks.ld e).andThen .now
theorem XAt.find {M:Model}{h:Heap}(X:K.In h)(Y:aFW K C):mm M h (find (.ref x) (.ref C) "__class__") (.bind (.builtin "getset_descriptor.__get__") (.builtin "object.__class__")):=by
 have L1:=qb (M:=M) X Y.cl
 have L2:mm M h (getOf (some (.builtin "object.__class__"))) (some (.builtin "getset_descriptor.__get__")):=PySem.W.looks_specialIn X Y.gt
 have L3:=PySem.W.looks_takesIn (M:=M) X Y.tk
 exact L1.andThen (L2.andThen ((show mm M h (dataDescriptor? (some (.builtin "object.__class__")) (some (.builtin "getset_descriptor.__get__"))) (some (.builtin "getset_descriptor.__get__", .builtin "object.__class__")) from L3.andThen .now).andThen (PySem.W.Looks.tag .now)))
theorem aCp {tp:Value}(X:K.In s.heap)(I:XAt s.heap x C)(hm:qj K C (.type "object")=some true)
  (h:R (.ok (.ret (.ref C))) s):uq (model prog w) A (.call (.builtin "getset_descriptor.__get__") ⟨[.builtin "object.__class__", .ref x,tp],[]⟩) R s:=by
 obtain⟨hh,g,dr,t,os⟩:=s
 have L0:=I.type (M:=model prog w)
 have L1:=PySem.W.looks_mroIn (M:=model prog w) X hm
 refine qc PySem.W.KF.slot_gs.plain PySem.W.KF.entry_gs (PySem.W.KF.slot_gs.check _ _ _ _ _ _ _ _ PySem.W.KF.type_class (PySem.W.KF.args_gs _ _ _) ?_)
 unfold Builtin.«getset_descriptor.__get__» descrGet
 rw[PySem.W.dga_obj]
 refine ae (ak ?_)
 unfold descrGetter descrCheckInstance descrNameAndClass wm
 simp only [PySem.W.KF.owner_class]
 repeat lk
 refine ⟨se _ (by decide +kernel),jb PySem.W.KF.entry_class ?_⟩
 unfold Builtin.«object.__class__» shownTypeOf
 repeat lk
 exact h
theorem aFF {M:Model}{nameV:Value}{Q:Unit->Shared->Prop}(X:K.In s.heap)(I:XAt s.heap x C)(Y:aFW K C)(hq:Q () s) :
  wpAny M A (vi "BaseException.__getattribute__" ⟨[.ref x,nameV],[]⟩) Q E s:=by
 obtain⟨h,g,d,t,os⟩:=s
 have hk:builtinKind "BaseException.__getattribute__" = some .slot:=by decide +kernel
 have hsplit:splitId "BaseException.__getattribute__" = some ("BaseException","__getattribute__"):=by decide +kernel
 have L0:=I.type (M:=M)
 have L1:=PySem.W.looks_subIn (M:=M) X Y.bx
 have ha:=F.args_bexc_ga (.ref x) nameV
 simp only [vi,hk,hsplit]
 refine ae ?_
 unfold wm
 refine ae (L0.at (L1.at ?_))
 repeat (any_goals (first | assumption | wp_step))
theorem aEs {Q:Option Value->Shared->Prop}(X:K.In s.heap)(I:XAt s.heap x C)(Y:aFW K C)(h:Q (some (.ref C)) { s with toks:=s.toks+1 }) :
  wpAny (model prog w) A (getAttr? (.ref x) "__class__") Q E s:=by
 obtain⟨hh,g,d,t,os⟩:=s
 have L0:=I.type (M:=model prog w)
 have L1:=qb (M:=model prog w) X Y.ga
 have L2:=qb (M:=model prog w) X Y.gn
 have L3:=XAt.find (M:=model prog w) (x:=x) X Y
 have hx2:(Value.builtin "BaseException.__getattribute__" == Value.builtin "object.__getattribute__")=false:=by decide +kernel
 have hx1:(onTheHeap (Value.ref C) && Value.builtin "BaseException.__getattribute__" == Value.builtin "object.__getattribute__")=false:=by rw[hx2];rfl
 unfold getAttr? getAttrBy? getAttrBy
 refine ae (wpAny_mkText (ae (ky (ft (ae (L0.at (ae (L1.at ?_))))))))
 dsimp only
 rw[hx1,if_neg br]
 unfold getAttrByItsOwn hookBefore
 rw[if_pos (show onTheHeap (Value.ref C)=true from rfl)]
 refine ae (L2.at (ae (ky (ft ?_))))
 unfold callGetattribute
 rw[gu,if_neg br]
 unfold boundAndCalled
 rw[F.attr_ValueError.ga.bind]
 refine ae (ak ?_)
 refine yh (qc F.attr_ValueError.ga.plain F.entry_bexc_ga (aFF X I Y ?_))
 unfold Builtin.«object.__getattribute__»
 refine ae (ak (ae (ak (ae (L0.at (ae (L3.at ?_)))))))
 show wpAny _ _ (do let v <- vt [Value.builtin "object.__class__"] (call (Value.builtin "getset_descriptor.__get__") [Value.builtin "object.__class__",Value.ref x,Value.ref C]);ret v) _ _ _
 refine ae (ft (yh (aCp (s:=⟨hh,g,d,t+1,os⟩) X I Y.ob (ak ?_))))
 refine PySem.W.handed_on rfl (ak h)
theorem wO (Y:aFW K C):PySem.W.KitX K (.ref x) (.ref C) (fun h=>XAt h x C) where
 ty:=fun _ _ _ I=>I.type
 it:=fun _ _ X _=>by
  obtain⟨cd,hc⟩:=gc.mp Y.is
  unfold nr at hc
  split at hc
  ·rename_i c' d' cd' sl' ho
   intro A' Q' E' s' k q
   unfold isType loadHead
   exact ae (wpAny_loadPart (k _ _ (X _ _ ho)) (ak q))
  ·cases hc
 ne:=fun h tp dd its n sl X htp=>by
  obtain⟨cd,hc⟩:=gc.mp Y.is
  refine Bool.eq_false_iff.mpr fun q=>?_
  have e:C=tp:=Value.ref.inj (beq_iff_eq.mp q)
  subst e
  unfold nr at hc
  split at hc
  ·rename_i c' d' cd' sl' ho
   have z:=(X _ _ ho).symm.trans htp
   cases z
  ·cases hc
 ca:=fun X I k=>aEs X I Y k
end
def lY (a C:Addr):HO := .ext fun h=>XAt h a C
theorem aHa {P:Program}{w:World}{H:Hp}{h:Heap}{a C:Addr}(x:XAt h a C):ObjOk P w H h a (lY a C):=
 ⟨x,let ⟨o,e,_⟩:=x;⟨o,e⟩,fun _ _ ⟨o,e,c⟩ k=>⟨o,k o e,c⟩⟩
def aLK (K:aa) (H:Hp) (C:Addr) (c:V) (b:Bool):Prop:=
 (∃ n,c = .ty n/\cq K (.ref C) (.type n)=some b)\/(∃ D,c = .ref D/\cq K (.ref C) (.ref D)=some b) \/
  ∃ (tp:Addr) (Ds:List Addr),c = .ref tp/\H tp=some (.tup (Ds.map V.ref))/\lh K (.ref C) (Ds.map Value.ref)=some b
def aBl (K:aa):List V->Hp->VK->Prop:=fun vs H Q=>∃ a C c b,vs=[.ref a,c]/\H a=some (lY a C)/\aFW K C/\aLK K H C c b/\Q (.bl b) H
theorem yD:∀ {Ds:List Addr} {us:List Value},Vals (Ds.map V.ref) us->us=Ds.map Value.ref
 | [],_, .nil=>rfl
 | _ :: _,_, .cons r t=>by
  obtain rfl:=r
  rw[yD t];rfl
section
variable {X:Cx}
theorem aEZ:CallR X (.builtin "isinstance") (aBl X.K):=by
 intro pins s σ H xs us Q I r ⟨a,C,c,b,e,ha,Y,hc,q⟩
 subst e
 obtain⟨u,v,rfl,rx,rc⟩:=r.two
 obtain rfl:u=Value.ref a:=rx
 have fin:∀ t:Nat,EP X pins σ Q (.bool b) { s with toks:=t }:=fun t=>⟨.bl b,H,I.tok t,rfl,q⟩
 have xa:XAt s.heap a C:=(I.hok a _ ha).1
 rcases hc with ⟨n,rfl,k⟩ | ⟨D,rfl,k⟩ | ⟨tp,Ds,rfl,ht,k⟩
 ·obtain rfl:v=Value.type n:=rc
  exact PySem.W.kia_one (wO Y) I.kIn xa k (by intro z;cases z) fin
 ·obtain rfl:v=Value.ref D:=rc
  exact PySem.W.kia_one (wO Y) I.kIn xa k (by intro z;cases z) fin
 ·obtain rfl:v=Value.ref tp:=rc
  obtain⟨_,its,rv,o,e1,e2,⟨m,e3⟩,_⟩:=I.hok tp _ ht
  obtain⟨oc,od,dt,sl⟩:=o
  dsimp only at e2 e3
  subst e2 e3
  obtain rfl:=yD rv
  exact PySem.W.kia_tup (wO Y) I.kIn xa e1 k (by intro z;cases z) fin
theorem iI {K:aa}(hK:X.K=K):CallR X (.builtin "isinstance") (aBl K):=by subst hK;exact aEZ
end
abbrev aFQ:List Value:=[.type "ValueError", .type "Exception", .type "BaseException", .type "object"]
theorem aHo {K:aa}{h:Heap}{C:Addr}{bmB:List Value}{newId:String}(X:K.In h)(q:jj K C bmB newId=true) :
  ∃ bm N nm qn bs hdct sn sub ab col dd k0 k1 k2 k3 k5 mN,h.get? C=some (excClassObj nm qn C N bs bm hdct sn sub ab col dd k0 k1 k2 k3 k5 newId)/\h.Ns N mN/\mN "__init__" = none/\OwnTail h bmB bm:=by
 unfold jj at q
 split at q
 ·rename_i dd cd sl ho
  split at q
  ·rename_i C' bm k0 k1 k2 k3 n k5 hm hs
   simp only [du,beq_iff_eq,Bool.not_eq_true'] at q
   obtain⟨⟨⟨⟨⟨rfl,rfl⟩,hdel⟩,ht⟩,hok⟩,hni⟩:=q
   obtain⟨nm,bs,mro,ns,qn,hd,sn,sub,ab,col,del⟩:=cd
   dsimp only at hm hdel hok hni
   subst hm hdel
   have hsl:sl=#[k0,k1,k2,k3,some (.builtin n),k5]:=by
    obtain⟨l⟩:=sl
    simp only at hs
    rw[hs]
   subst hsl
   exact ⟨bm,ns,nm,qn,bs,hd,sn,sub,ab,col,dd,k0,k1,k2,k3,k5,_,X _ _ ho, .of_isNs (PySem.W.isNs_of_in X hok),PySem.W.nsMap_none_of_in X hok hni,PySem.W.tail_of_in X ht⟩
  ·cases q
 ·cases q
def aDO (X:Cx) (E:XK):Prop:=∀ (pins:List (Addr × Obj)) (σ:St) (H:Hp) (s:Shared) (cls:Value) (e:Addr) (vs:List Value) (h':Heap),Inv X pins σ H s->E cls none H->Heap.MadeExcOf s.heap h' e cls vs->X.xe (.ref e) { s with heap:=h' }
def zV (C:Addr) (E:XK):TS:=fun _ _ H=>E (.ref C) none H
section
variable {X:Cx}{x:Str}{np cpos pos p:Pos}{C:Addr}{E:XK}{m:Str}{j:Nat}
theorem aFy (T:aDO X E)(hc:X.calm=true)(hg:Gl X x)(hm:X.mg x=some (.ref C))(q:jj X.K C aFQ "ValueError.__new__" = true)(hdb:(x == ("__debug__" : Str))=false:=by decide) :
  PS X (.Raise (some (.Call (.Name x np) [.Constant (.str m) j p] [] cpos)) none pos) (zV C E):=by
 intro pins s σ H D I h
 obtain⟨bm,N,nm,qn,bs,hdct,sn,sub,ab,col,dd,k0,k1,k2,k3,k5,mN,hC,hN,hni,TL⟩:=aHo I.kIn q
 refine wpAny_Raise_call_subT (C:=C) (nm:=nm) (q:=qn) (N:=N) (bs:=bs) (bm:=bm) (hdct:=hdct) (sn:=sn) (sub:=sub) (ab:=ab) (col:=col) (dd:=dd) (k0:=k0) (k1:=k1) (k2:=k2) (k3:=k3) (k5:=k5)
  wz (mN:=mN) (TL.hasType wz.hasBase) (I.ok.hd hc) rfl hni (vU I hg hm ⟨rfl,?_⟩ hdb)
 refine wu (Calls.spliced_cons (Calls.Constant_str (k:=j) (pos:=p) (Calls.spliced_nil ⟨rfl,?_,hC,hN,TL,fun h' e hx=>?_⟩)))
 ·show 1<=ba
  decide
 ·exact T pins σ H _ _ e _ h' (I.tok _) h hx
end
def tI (P:Program) (w:World):CXT:=fun outer H s E e s'=>
 ∃ (a:Addr) (cls a0:Value) (H':Hp) (B:Heap),e = .ref a/\s'.os=s.os/\tm s'.gens/\Un (frs outer) [] H H' s.heap s'.heap/\HOk P w H' s'.heap /\
  yv B outer a cls a0 s'.heap/\(∀ b o,s'.heap.get? b=some o->b∉frs outer->(H' b≠none\/∃ o',s.heap.get? b=some o')->B.get? b=some o)/\E cls none H'
section
variable {X:Cx}{pins:List (Addr × Obj)}{σ:St}{H:Hp}{s:Shared}{E:XK}{a:Addr}{cls a0:Value}{B h2:Heap}
theorem ObjOk.there {P:Program}{w:World}{H:Hp}{h:Heap}{a:Addr}:∀ {o:HO},ObjOk P w H h a o->∃ u,h.get? a=some u
 | .lst _,⟨_,_,_,_,e⟩=>⟨_,e⟩
 | .tup _,⟨_,_,_,o,e,_⟩=>⟨_,e⟩
 | .dK _,⟨_,_,_,_,o,_,_,e,_⟩=>⟨_,e⟩
 | .dT _,⟨_,_,_,_,o,_,_,e,_⟩=>⟨_,e⟩
 | .set _ _,⟨o,_,_,_,e,_⟩=>⟨_,e⟩
 | .ins _ _ _,⟨_,_,_,e,_⟩=>⟨_,e⟩
 | .own _,⟨_,e⟩=>⟨_,e⟩
 | .xd _,⟨_,⟨_,_,_,e,_⟩,_⟩=>⟨_,e⟩
 | .rng _ _,⟨_,_,_,e⟩=>⟨_,e⟩
 | .frz _ _,⟨e,_⟩=>⟨_,e⟩
 | .tbl _,e=>⟨_,e⟩
 | .met _ _,e=>⟨_,e⟩
 | .ext _,⟨_,e,_⟩=>e
theorem aBO (hex:X.ex=[])(J:Inv X pins σ H s)(hfl:yv B X.outer a cls a0 h2)(up:s.heap.UpToSlots h2)
  (cov:∀ b o,s.heap.get? b=some o->b∉frs X.stack->(H b≠none\/∃ o',X.s₀.heap.get? b=some o')->B.get? b=some o) (hE:E cls none H):tI X.prog X.w X.outer X.H₀ X.s₀ E (.ref a) { s with heap:=h2 }:=by
 have neL:∀ b o,X.s₀.heap.get? b=some o->b≠X.env.locals:=fun b o e=>di (aw (bo e) J.ok.above)
 have nx:∀ b:Addr,b∉X.ex:=fun b z=>by rw[hex] at z;cases z
 have nst:∀ b,b≠X.env.locals->b∉frs X.outer->b∉frs X.stack:=fun b h1 h2 z=>(dk.mp (J.stkSub b z)).elim h1 h2
 have tr:∀ b u o,H b=some u->s.heap.get? b=some o->h2.get? b=some o:=fun b u o e q=>
  hfl.1 b o (cov b o q (fun z=>by rw[J.stkFree b z] at e;cases e) (.inl (by rw[e];exact fun z=>by cases z)))
 have ko:∀ b o,X.s₀.heap.get? b=some o->∀ o1,s.heap.get? b=some o1->b∉frs X.outer->h2.get? b=some o1:=fun b o e o1 q n=>hfl.1 b o1 (cov b o1 q (nst b (neL b o e) n) (.inr ⟨o,e⟩))
 refine ⟨a,cls,a0,H,B,rfl,J.os,J.bare,⟨fun b o e n hb _=>?_,fun b o e n hb _=>?_,fun b o e n _=>?_,fun b o e _=>?_,J.base.tups,J.base.frzs,J.base.tbls⟩,fun b u e=>?_,hfl,fun b o e n hc=>?_,hE⟩
 ·exact ko b o e o (J.base.keep b o e n hb (nx b)) hb
 ·obtain⟨sl,e1⟩:=J.base.slot b o e n hb (nx b)
  obtain⟨_,o2,e2,nf⟩:=J.funs.mem hb
  rw[e1] at e2;cases e2
  obtain⟨sl',e3⟩:=up b _ e1 nf
  exact ⟨sl',e3⟩
 ·exact J.base.free b o e n (nx b)
 ·obtain⟨o1,e1⟩:=J.base.there b o e (nx b)
  by_cases hb:b∈frs X.outer
  ·obtain⟨_,o2,e2,nf⟩:=J.funs.mem hb
   obtain⟨sl',e3⟩:=up b _ e2 nf
   exact ⟨_,e3⟩
  ·exact ⟨o1,ko b o e o1 e1 hb⟩
 ·refine (J.hok b u e).stay (fun c v hc q=>?_) (fun _ q=>q) fun _ _ q=>q
  rcases hc with z | z
  ·rw[z] at q ⊢;exact tr b u v e q
  ·exact tr c _ v z q
 ·rcases hc with hc | ⟨o',e'⟩
  ·cases hu:H b with
   | none=>exact absurd hu hc
   | some u=>
    obtain⟨o1,e1⟩:=(J.hok b u hu).there
    have e2:=tr b u o1 hu e1
    rw[e] at e2;cases e2
    exact cov b o e1 (fun z=>by rw[J.stkFree b z] at hu;cases hu) (.inl hc)
  ·obtain⟨o1,e1⟩:=J.base.there b o' e' (nx b)
   have e2:=ko b o' e' o1 e1 n
   rw[e] at e2;cases e2
   exact cov b o e1 (nst b (neL b o' e') n) (.inr ⟨o',e'⟩)
end
section
variable {P:Program}{w:World}{K:aa}{mg:Str->Option Value}{base:Heap}{N:List Str}{qual:Str}{scope:Scope}{f:Addr}{cd:Value}{A:Around}{outer:List Env}{s₀:Shared}{H₀:Hp}{E:XK}
theorem oQ:aDO (aBh (tI P w) P w K mg base N qual scope f cd A outer s₀ H₀ E) E:=by
 intro pins σ H s cls e vs h' I hE hx
 have hin:∀ env∈(aBh (tI P w) P w K mg base N qual scope f cd A outer s₀ H₀ E).stack,∀ b,env.frame=some b->b∈frs (aBh (tI P w) P w K mg base N qual scope f cd A outer s₀ H₀ E).stack:=fun env he b hb=>rj.mpr ⟨env,he,hb⟩
 show wpAny _ _ _ _ _ _
 refine wpAny_leaves_madeW (base:=PySem.W.hideAll s.heap (frs (aBh (tI P w) P w K mg base N qual scope f cd A outer s₀ H₀ E).stack)) I.ok.frames rfl (fun b o q=>PySem.W.of_hideAll _ q) (PySem.W.funFrames_hide I.stack hin) hx fun h2 t x1 _ _ x4=>?_
 exact aBO (s:={ s with heap:=s.heap }) rfl I x1 ((Heap.UpToSlots.of_keeps hx.keeps).trans x4) (fun b o q n _=>xi _ q n) hE
theorem kR:pJ (tI P w) (aBh (tI P w) P w K mg base N qual scope f cd A outer s₀ H₀ E) E:=by
 intro pins σ H s e s' I ⟨a,cls,a0,H',B,he,os,bare,un,hok,hfl,cov,hE⟩
 subst he
 have J:Inv (aBh (tI P w) P w K mg base N qual scope f cd A outer s₀ H₀ E) pins σ H' s':=I.call' os un hok bare (fun b z=>absurd z (by simp))
 show wpAny _ _ _ _ _ _
 refine wpAny_leaves_onW I.ok.frames rfl hfl fun h2 x1 x2=>?_
 exact aBO rfl J x1 x2 (fun b o q n hc=>cov b o q n (hc.elim .inl fun ⟨o',z⟩ => .inr (I.base.there b o' z (by simp [aBh])))) hE
end
section
variable {X:Cx}{pins:List (Addr × Obj)}{σ:St}{H:Hp}{s:Shared}
theorem aFe {M:Model}{A:Around}{E:Value->Shared->Prop}{i:Nat}{x:Str}{Q:Bool->Shared->Prop}(I:Inv X pins σ H s)(hN:X.N.Nodup)(hi:X.N[i]?=some x)
  (h:∀ s' m,s.heap.Ns X.env.locals m->Inv X pins (σ.set i none) H s'->Q (m x).isSome s'):wpAny M A (nsDel X.env.locals x) Q E s:=by
 obtain⟨m,hn,hl⟩:=id I.loc
 have hiσ:i<σ.length:=by rw[I.len];exact (ai.mp hi).1
 have cne:=I.cne
 obtain⟨oL,_,_,hoL,_⟩:=id hn
 refine wpAny_nsDel_keeps hn fun h' w' hn' hs=>?_
 refine h { s with heap:=h' } m hn ⟨I.ok,I.os,I.bare,⟨fun b o e n hb hx=>?_,fun b o e n hb hx=>?_,I.base.free,fun b o e hx=>?_,I.base.tups,I.base.frzs,I.base.tbls⟩,⟨_,hn',fun j y v' e1 e2 e3=>?_⟩,fun y c e=>?_,I.free,I.freeC,fun p hp=>?_,fun b ob e=>?_,by simpa using I.len⟩
 ·exact (hs.2 b (di (aw (bo e) I.ok.above))).trans (I.base.keep b o e n hb hx)
 ·obtain⟨sl,e1⟩:=I.base.slot b o e n hb hx
  exact ⟨sl,(hs.2 b (di (aw (bo e) I.ok.above))).trans e1⟩
 ·obtain⟨o',e1⟩:=I.base.there b o e hx
  exact ⟨o',(hs.2 b (di (aw (bo e) I.ok.above))).trans e1⟩
 ·by_cases hj:j=i
  ·subst hj
   rw[fw hiσ] at e2
   cases e2
  ·rw[dn (ig hj)] at e2
   obtain⟨u',r',q⟩:=hl j y v' e1 e2 e3
   refine ⟨u',r',?_⟩
   rcases q with ⟨k,e⟩ | ⟨k,c,e,z⟩
   ·refine .inl ⟨k,?_⟩
    have:y≠x:=fun e=>hj (wU hN e1 (e ▸ hi))
    simp [this,e]
   ·exact .inr ⟨k,c,e,z.sameBut hs (cne y c e)⟩
 ·obtain⟨w',z⟩:=I.cell y c e
  exact ⟨w',z.sameBut hs (cne y c e)⟩
 ·obtain⟨e,n,ne,nf,d⟩:=I.pin p hp
  exact ⟨(hs.2 p.1 ne).trans e,n,ne,nf,d⟩
 ·refine (I.hok b ob e).stay (fun c w' hc q=>(hs.2 c ?_).trans q) (fun _ q=>q) fun _ _ q=>q
  rintro rfl
  rcases hc with rfl | hc
  ·rw[I.free] at e;cases e
  ·rw[I.free] at hc;cases hc
theorem aEx {i:Nat}{v w:Option V}:(σ.set i v).set i w=σ.set i w:=List.set_set ..
theorem mB {M:Model}{A:Around}{E:Value->Shared->Prop}{i:Nat}{x:Str}{pos:Pos}{Q:Unit->Shared->Prop}(I:Inv X pins σ H s)(hN:X.N.Nodup)(hi:X.N[i]?=some x)(hx:X.env.scope.names.lookup x=some .local)
  (h:∀ s',Inv X pins (σ.set i none) H s'->Q () s'):wpAny M A (do bindName X.env x .none;w4 X.env x pos) Q E s:=by
 have hcls:(X.env.scope.kind == .class || (X.env.scope.kind == .module && X.env.locals != X.env.globals))=false:=by rw[I.ok.kind];rfl
 have hk:X.env.kindOf x=some .local:=hx
 refine ae (wpAny_bindName (qO (v := .non) I hN hi (.inl hx) rfl (fun s' I'=>?_) (.inr hx)))
 unfold w4
 refine qi ?_
 unfold unbindName
 refine ae (wpAny_point (ae ?_))
 unfold deleteName
 simp only [hk,hcls]
 rw[if_neg (by decide)]
 refine ae (aFe I' hN hi fun s2 m hm I2=>?_)
 have hs:(m x).isSome=true:=by
  obtain⟨m',hn',hl'⟩:=I'.loc
  obtain⟨u,ru,q⟩:=hl' i x .non hi (fw (by rw[I.len];exact (ai.mp hi).1)) (.inl hx)
  rcases q with ⟨_,e⟩ | ⟨k,_⟩
  ·have:m=m':=by
    funext y
    obtain⟨o,es,ep,ho,hd,hk',hm'⟩:=hm
    obtain⟨o',es',ep',ho',hd',hk'',hm''⟩:=hn'
    rw[ho] at ho';cases ho'
    rw[hd] at hd';cases hd'
    rw[<- hm' y,<- hm'' y]
   rw[this,e];rfl
  ·rw[hk] at k;rcases k with k | k <;> cases k
 rw[hs]
 simp only [j5,e7,if_false]
 refine ak (wpAny_point (h s2 ?_))
 rw[aEx] at I2
 exact I2
end
abbrev Cx.tried (X:Cx) (pn:List (Addr × Obj)) (W:Value->Shared->Prop):Cx:={ X with pn:=pn,xe:=W }
abbrev Cx.suite (X:Cx) (pn:List (Addr × Obj)) (a:Addr):Cx:={ X with pn:=pn,xe:=fun _ _=>False,A:=X.A.mark (some (.ref a)),calm:=false }
section
variable {X:Cx}{pins pn pins':List (Addr × Obj)}{σ:St}{H H':Hp}{s s':Shared}{W:Value->Shared->Prop}{a C:Addr}{cls a0:Value}{B h2:Heap}
theorem Inv.tried (I:Inv X pins σ H s)(W:Value->Shared->Prop):Inv (X.tried (X.pn++pins) W) [] σ H s:=
 ⟨⟨I.ok.mod,I.ok.kind,I.ok.glob,I.ok.blt,I.ok.above,I.ok.inj,I.ok.has,I.ok.cab,I.ok.hd,I.ok.frames,I.ok.stk,I.ok.exf,I.ok.bs,I.ok.bsz,I.ok.noex,I.ok.exfs,I.ok.funs,I.ok.frf⟩,I.os,I.bare,I.base,I.loc,I.cell,I.free,I.freeC,
  fun p hp=>I.pin p (by simpa using hp),I.hok,I.len⟩
theorem Inv.untried (I:Inv (X.tried (X.pn++pins) W) pins' σ H s):Inv X pins σ H s:=
 ⟨⟨I.ok.mod,I.ok.kind,I.ok.glob,I.ok.blt,I.ok.above,I.ok.inj,I.ok.has,I.ok.cab,I.ok.hd,I.ok.frames,I.ok.stk,I.ok.exf,I.ok.bs,I.ok.bsz,I.ok.noex,I.ok.exfs,I.ok.funs,I.ok.frf⟩,I.os,I.bare,I.base,I.loc,I.cell,I.free,I.freeC,
  fun p hp=>I.pin p (kc _ hp),I.hok,I.len⟩
theorem Inv.suite (I:Inv X pins σ H s)(a:Addr):Inv (X.suite (X.pn++pins) a) [] σ H s:=
 ⟨⟨I.ok.mod,I.ok.kind,I.ok.glob,I.ok.blt,I.ok.above,I.ok.inj,I.ok.has,I.ok.cab,(fun z=>by cases z),I.ok.frames,I.ok.stk,I.ok.exf,I.ok.bs,I.ok.bsz,I.ok.noex,I.ok.exfs,I.ok.funs,I.ok.frf⟩,I.os,I.bare,I.base,I.loc,I.cell,I.free,I.freeC,
  fun p hp=>I.pin p (by simpa using hp),I.hok,I.len⟩
theorem Inv.unsuite (ok:X.Ok)(I:Inv (X.suite (X.pn++pins) a) pins' σ H s):Inv X pins σ H s:=
 ⟨ok,I.os,I.bare,I.base,I.loc,I.cell,I.free,I.freeC,fun p hp=>I.pin p (kc _ hp),I.hok,I.len⟩
theorem zS (I:Inv X pins σ H s)(os:s'.os=s.os)(bare:tm s'.gens)(un:Un (frs X.stack) [] H H' s.heap s'.heap)(hok:HOk X.prog X.w H' s'.heap)
  (cov:∀ b o,s'.heap.get? b=some o->b∉frs X.stack->(H' b≠none\/∃ o',s.heap.get? b=some o')->B.get? b=some o)
  (hfl:yv B X.stack a (.ref C) a0 h2) (up:s'.heap.UpToSlots h2) (ha:∃ oe,s'.heap.get? a=some oe):H' a=none/\Inv X pins σ (upd H' a (lY a C)) { s' with heap:=h2 }:=by
 obtain⟨f1,f2,f3,f4⟩:=id hfl
 have sf:∀ b∈frs X.stack,H' b=none:=fun b hb=>by
  obtain⟨_,o,ho,_⟩:=I.stack.mem hb
  exact un.free b o ho (I.stkFree b hb) (by simp)
 have na:a∉frs X.stack:=fun hb=>by
  obtain⟨_,o,ho,nf⟩:=f3.mem hb
  obtain⟨oe,vs,_,_,_,e1,_,e2,_⟩:=f4
  rw[ho] at e1;cases e1
  exact nf vs e2
 have hn:H' a=none:=by
  cases q:H' a with
  | none=>rfl
  | some u=>
   obtain⟨oe,e⟩:=ha
   have:=cov a oe e na (.inl (by rw[q];exact fun z=>by cases z))
   rw[f2] at this;cases this
 have hs:s.heap.get? a=none:=by
  cases q:s.heap.get? a with
  | none=>rfl
  | some o=>
   obtain⟨oe,e⟩:=ha
   have:=cov a oe e na (.inr ⟨o,q⟩)
   rw[f2] at this;cases this
 have tr:∀ b u o,H' b=some u->s'.heap.get? b=some o->h2.get? b=some o:=fun b u o e q=>
  f1 b o (cov b o q (fun z=>by rw[sf b z] at e;cases e) (.inl (by rw[e];exact fun z=>by cases z)))
 have nb:∀ b o,s.heap.get? b=some o->b≠a:=fun b o e z=>by rw[z,hs] at e;cases e
 have nt:∀ b u,H' b=some u->b≠a:=fun b u e z=>by rw[z,hn] at e;cases e
 refine ⟨hn,I.call' (s':={ s' with heap:=h2 }) (ch:=[]) os ⟨fun b o e n hb _=>?_,fun b o e n hb _=>?_,fun b o e n _=>?_,fun b o e _=>?_,fun b xs e=>?_,fun b o u e=>?_,fun b ps e=>?_⟩ (fun b u e=>?_) bare (fun b z=>absurd z (by simp))⟩
 ·exact f1 b o (cov b o (un.keep b o e n hb (by simp)) hb (.inr ⟨o,e⟩))
 ·obtain⟨sl,e1⟩:=un.slot b o e n hb (by simp)
  obtain⟨_,o2,e2,nf⟩:=I.stack.mem hb
  rw[e] at e2;cases e2
  obtain⟨sl',e3⟩:=up b _ e1 nf
  exact ⟨sl',e3⟩
 ·rw[bA (nb b o e)];exact un.free b o e n (by simp)
 ·obtain⟨o1,e1⟩:=un.there b o e (by simp)
  by_cases hb:b∈frs X.stack
  ·obtain⟨_,o2,e2,nf⟩:=I.stack.mem hb
   obtain⟨sl,e3⟩:=un.slot b o2 e2 (I.stkFree b hb) hb (by simp)
   obtain⟨sl',e4⟩:=up b _ e3 nf
   exact ⟨_,e4⟩
  ·exact ⟨o1,f1 b o1 (cov b o1 e1 hb (.inr ⟨o,e⟩))⟩
 ·have:=un.tups b xs e
  rw[bA (nt b _ this)];exact this
 ·have:=un.frzs b o u e
  rw[bA (nt b _ this)];exact this
 ·obtain⟨more,this⟩:=un.tbls b ps e
  exact ⟨more,by rw[bA (nt b _ this)];exact this⟩
 ·by_cases hb:b=a
  ·subst hb
   rw[aD] at e;cases e
   obtain⟨ob,e1,e2⟩:=hfl.there
   exact aHa ⟨ob,e1,e2⟩
  ·rw[bA hb] at e
   refine (hok b u e).stay (fun c v hc q=>?_) (fun c q=>by rw[bA (nt c _ q)];exact q) fun c xs q=>by rw[bA (nt c _ q)];exact q
   rcases hc with z | z
   ·rw[z] at q ⊢;exact tr b u v e q
   ·exact tr c _ v z q
end
def aKA (K:aa) (C0:Addr) (ie ln:Nat) (tb:XK->TS) (th:TS):TS:=fun D σ H=>
 tb (fun cls _ H1=>∃ C,cls = .ref C/\jm K (.ref C) (.ref C0)=some true/\∀ (a:Addr) (σ':St),H1 a=none->σ'.length=ln ->
  th { nx:=fun σ2 H2=>D.nx (σ2.set ie none) H2,rt:=D.rt,bk:=fun σ2 H2=>D.bk (σ2.set ie none) H2,ct:=fun σ2 H2=>D.ct (σ2.set ie none) H2 } (σ'.set ie (some (.ref a))) (upd H1 a (lY a C))) D σ H
section
variable {X:Cx}{x n:Str}{np pos hpos:Pos}{C0:Addr}{ie ln:Nat}{tb:XK->TS}{th:TS}{body suite:List Stmt}{b₀:Stmt}
theorem SP.untried {pins:List (Addr × Obj)}{W:Value->Shared->Prop}{D:lO}{f:Flow}{s':Shared}(h:SP (X.tried (X.pn++pins) W) [] D f s'):SP X pins D f s':=by
 cases f with
 | next=>obtain⟨σ',H',I,q⟩:=h;exact ⟨σ',H',I.untried,q⟩
 | brk=>obtain⟨σ',H',I,q⟩:=h;exact ⟨σ',H',I.untried,q⟩
 | cont=>obtain⟨σ',H',I,q⟩:=h;exact ⟨σ',H',I.untried,q⟩
 | ret u=>obtain⟨v,σ',H',I,r,q⟩:=h;exact ⟨v,σ',H',I.untried,r,q⟩
theorem aJr (hst:X.stack=X.env :: X.outer)(hfr:X.env.frame=some X.env.locals)(hln:X.N.length=ln)(hN:X.N.Nodup)(hi:X.N[ie]?=some n)(hx:X.env.scope.names.lookup n=some .local)
  (hg:Gl X x) (hm:X.mg x=some (.ref C0)) (hb:∀ pn W E,pJ (tI X.prog X.w) (X.tried pn W) E->PSs (X.tried pn W) body (tb E)) (hs:∀ pn a,PSs (X.suite pn a) (b₀ :: suite) th) (hdb:(x == ("__debug__" : Str))=false:=by decide) :
  PS X (.Try body [.ExceptHandler (some (.Name x np)) (some n) (b₀ :: suite) hpos] [] [] pos) (aKA X.K C0 ie ln tb th):=by
 intro pins s σ H D I h
 have hps:=hb (X.pn++pins) (fun e s'=>∃ pins' σ1 H1 s1,Inv (X.tried (X.pn++pins) fun _ _=>False) pins' σ1 H1 s1/\tI X.prog X.w X.stack H1 s1 _ e s') _ (fun pins' σ1 H1 s1 e s' I1 hl=>⟨pins',σ1,H1,s1,⟨⟨I1.ok.mod,I1.ok.kind,I1.ok.glob,I1.ok.blt,I1.ok.above,I1.ok.inj,I1.ok.has,I1.ok.cab,I1.ok.hd,I1.ok.frames,I1.ok.stk,I1.ok.exf,I1.ok.bs,I1.ok.bsz,I1.ok.noex,I1.ok.exfs,I1.ok.funs,I1.ok.frf⟩,I1.os,I1.bare,I1.base,I1.loc,I1.cell,I1.free,I1.freeC,I1.pin,I1.hok,I1.len⟩,hl⟩) [] s σ H D (I.tried _) h
 refine wpAny_Try_except (il hps (fun f s1 q=>?_) fun e s1 q=>?_)
 ·cases f with
  | next=>exact ql q.untried
  | brk=>exact q.untried
  | cont=>exact q.untried
  | ret u=>exact q.untried
 ·obtain⟨pins',σ1,H1,s0,I1,a,cls,a0,H',B,he,os,bare,un,hok,hfl,cov,C,hc,hex,hth⟩:=q
  subst he hc
  have hfl0:=hfl
  rw[hst] at hfl
  have hfrm:X.A.frames=some (X.env :: X.outer):=by rw[<- hst];exact I.ok.frames
  obtain⟨oe,hoe,_⟩:=hfl0.there
  refine wpAny_looks_onW hfrm hfr hfl fun h4 hheld4 up4=>?_
  refine wpAny_landsW hheld4 fun h5 hfl5 up5=>?_
  have up5':=up4.trans up5
  obtain⟨hna,J5⟩:=zS (X:=X.tried (X.pn++pins) fun _ _=>False) I1 os bare un hok cov (by rw[hst];exact hfl5) up5' ⟨oe,hoe⟩
  have J5s:=J5.untried.suite a
  refine wpAny_handleBy_cons (codeAny_handlers_test (vU J5s hg hm ?_ hdb)) (by intro z;cases z)
  obtain⟨ob,hob,hobc⟩:=hfl5.there
  have LT:mm (model X.prog X.w) h5 (typeOf (.ref a)) (.ref C):=XAt.type ⟨ob,hob,hobc⟩
  refine (PySem.W.exm_one J5.kIn LT hex).at ?_
  refine codeAny_handlers_suite_as ?_
  refine lands_againW hfl5 fun h6 hfl6 up6=>?_
  obtain⟨_,J6⟩:=zS (X:=X.tried (X.pn++pins) fun _ _=>False) I1 os bare un hok cov (by rw[hst];exact hfl6) (up5'.trans up6) ⟨oe,hoe⟩
  have J6s:=J6.untried.suite a
  refine qO (X:=X.suite (X.pn++pins) a) (v := .ref a) J6s hN hi (.inl hx) rfl (fun s7 J7=>?_) (.inr hx)
  refine il (hs (X.pn++pins) a [] s7 _ _ _ J7 (hth a σ1 hna (by rw[I1.len];exact hln))) (fun f s8 q=>?_) fun _ _ z=>ju z
  cases f with
  | next=>
   obtain⟨σ8,H8,J8,q8⟩:=q
   exact mB (X:=X.suite (X.pn++pins) a) J8 hN hi hx fun s9 J9=>⟨_,H8,J9.unsuite I.ok,q8⟩
  | brk=>
   obtain⟨σ8,H8,J8,q8⟩:=q
   exact mB (X:=X.suite (X.pn++pins) a) J8 hN hi hx fun s9 J9=>⟨_,H8,J9.unsuite I.ok,q8⟩
  | cont=>
   obtain⟨σ8,H8,J8,q8⟩:=q
   exact mB (X:=X.suite (X.pn++pins) a) J8 hN hi hx fun s9 J9=>⟨_,H8,J9.unsuite I.ok,q8⟩
  | ret u=>
   obtain⟨v,σ8,H8,J8,r8,q8⟩:=q
   exact mB (X:=X.suite (X.pn++pins) a) J8 hN hi hx fun s9 J9=>⟨v,_,H8,J9.unsuite I.ok,r8,q8⟩
end
section
variable {X:Cx}{st:Stmt}{t:TS}{x:Str}{np pos hpos cpos p:Pos}{C C0:Addr}{E:XK}{m:Str}{j:Nat}{K:aa}
theorem PS.nox (h:PS X.nox st t):PS X st t:=fun pins s σ H D I hw=>
 il (h pins s σ H D (I.wish _) hw) (fun _ _ q=>q.unwish) fun _ _ z=>ju z
theorem sO (hK:X.K=K)(T:aDO X E)(hc:X.calm=true)(hg:Gl X x)(hm:X.mg x=some (.ref C))(q:jj K C aFQ "ValueError.__new__" = true)(hdb:(x == ("__debug__" : Str))=false:=by decide) :
  PS X (.Raise (some (.Call (.Name x np) [.Constant (.str m) j p] [] cpos)) none pos) (zV C E):=aFy T hc hg hm (by rw[hK];exact q) hdb
theorem aGX {n:Str}{ie ln:Nat}{tb:XK->TS}{th:TS}{body suite:List Stmt}{b₀:Stmt}(hK:X.K=K)(hst:X.stack=X.env :: X.outer)(hfr:X.env.frame=some X.env.locals)(hln:X.N.length=ln)(hN:X.N.Nodup)(hi:X.N[ie]?=some n)(hx:X.env.scope.names.lookup n=some .local)
  (hg:Gl X x) (hm:X.mg x=some (.ref C0)) (hb:∀ pn W E,pJ (tI X.prog X.w) (X.tried pn W) E->PSs (X.tried pn W) body (tb E)) (hs:∀ pn a,PSs (X.suite pn a) (b₀ :: suite) th) (hdb:(x == ("__debug__" : Str))=false:=by decide) :
  PS X (.Try body [.ExceptHandler (some (.Name x np)) (some n) (b₀ :: suite) hpos] [] [] pos) (aKA K C0 ie ln tb th):=by subst hK;exact aJr hst hfr hln hN hi hx hg hm hb hs hdb
end
structure DefX (P:Program)(w:World)(K:aa)(mg:Str->Option Value)(base:Heap)(x:Str)(k:Nat)(ps:List Str)(sp:Sp):Prop where
 ex:∃ (f:Addr) (fd:FuncData),FnOk P w K mg base (tI P w) k f fd ps sp/\mg x=some (.ref f)/\bj K (.ref f)=true/\Binds K fd ps []
theorem DefX.mono {P:Program}{w:World}{K:aa}{mg:Str->Option Value}{base:Heap}{x:Str}{j k:Nat}{ps:List Str}{sp:Sp}(D:DefX P w K mg base x j ps sp)(h:j<=k):DefX P w K mg base x k ps sp:=by
 obtain⟨f,fd,F,r⟩:=D.ex
 exact ⟨f,fd,F.mono h,r⟩
theorem wF {X:Cx}{x:Str}{k:Nat}{ps:List Str}{sp:Sp}{p pos:Pos}{e:Expr}{es:List Expr}{t:TA}{E:XK}(D:DefX X.prog X.w X.K X.mg X.base x k ps sp)(hr:Room k X.A)(hg:Gl X x)(hx:pJ (tI X.prog X.w) X E)(ha:PA X (e :: es) t)
  (hdb:(x == ("__debug__" : Str))=false:=by decide) (he:dz (e :: es) X.env=(false,eval e X.env) :: dz es X.env:=by rfl) (hpl:(rh pos (dz es X.env)).any (·.1)=false:=by rfl) :
  PE X (.Call (.Name x p) (e :: es) [] pos) (bG sp [] E t):=by
 obtain⟨f,fd,F,hm,hk,hb⟩:=D.ex
 exact aCX F hr hg hm hk hb .nil hx ha hdb he hpl
section
variable {P:Program}{w:World}{K:aa}{mg:Str->Option Value}{base:Heap}
theorem Fun.okX {x qual:Str}{st:Stmt}{f:Addr}{fd:FuncData}{N ps:List Str}{k:Nat}{sp:Sp}(F:Fun K x qual st f fd)(S:bC N ps (aJ st))(len:∀ vs H Q E,sp vs H Q E->vs.length=ps.length)
  (hbody:∀ (cdv:Value) (A:Around) (outer:List Env) (s:Shared) (H:Hp) (vs:List V) (Q:VK) (E:XK),Room k (A.deeper (xy qual (aJ st) s.heap.objs.size f cdv))->sp vs H Q E ->
   ∃ t,PSs (aBh (tI P w) P w K mg base N qual (aJ st) f cdv A outer s H E) (aZ st) t/\t { nx:=fun _ H'=>Q .non H',rt:=Q } (bD N vs) H):FnOk P w K mg base (tI P w) (k+1) f fd ps sp:=by
 obtain⟨oc,od,kV,doc,pm,an,cdv,ct,osl,rfl,lk,hcd⟩:=F.ex
 exact aHN lk hcd S len fun A outer s H vs Q E hr hsp=>hbody cdv A outer s H vs Q E hr hsp
end
theorem xI:d9 ("ValueError" : Str)=some (.type "ValueError"):=PyProof.Rows.Boot.«ValueError»
end L2
namespace L2
open PySem
section
variable {X:Cx}
def aKT:V->List V->Hp->VK->Prop:=fun x vs H Q=>∃ (l:Addr) (xs:List V) (y:V) (j:Nat),x = .ref l/\vs=[y]/\H l=some (.lst xs)/\nI y=true/\xs.all nI=true/\(∃ z,xs[j]?=some z/\eqV z y=true)/\(∀ m z,m<j->xs[m]?=some z->eqV z y=false)/\Q (.int (j:Int)) H
theorem aJl:MtM X "list.index" aKT:=by
 intro pins s σ H x vs v us Q I rx rv h
 obtain⟨l,xs,y,j,rfl,rfl,hH,fy,fs,⟨z,hz,hzy⟩,hno,q⟩:=h
 cases rx
 obtain⟨u,rfl,ru⟩:=rv.one
 obtain⟨zz,its,n,r,hl,e⟩:=I.lstM hH
 have hjx:j<xs.length:=(ai.mp hz).1
 have hji:j<its.length:=by omega
 have at':∀ m (hm:m<its.length),∃ w,xs[m]?=some w/\eqU y its[m]=eqV w y:=fun m hm=>by
  have e1:xs[m]?=some xs[m]:=ah (by omega)
  obtain⟨u',hu',ru'⟩:=r.get e1
  rw[ah hm] at hu'
  cases hu'
  exact ⟨xs[m],e1,aBC ru' (e9.mp fs _ (jw _))⟩
 refine wk F.slot_list_index ⟨_,e,rfl⟩ F.entry_list_index (F.args_list_index_2 _ _)
  (SeqAt.list_indexAt l its.toArray n none #[] u (eqU y) j (by rw[aq];exact hji) (Int.lt_of_lt_of_le (Int.ofNat_lt.mpr (aw hjx zz)) (by decide)) ?_ ?_) ⟨e,fun w hw=>iS ru fy r fs w (by simpa using hw),?_⟩
 ·obtain⟨w,e1,e2⟩:=at' j hji
  rw[hz] at e1
  cases e1
  show eqU y its[j]=true
  rw[e2];exact hzy
 ·intro m hm hmj
  obtain⟨w,e1,e2⟩:=at' m (by rw[aq] at hm;exact hm)
  show eqU y its[m]=false
  rw[e2];exact hno m w hmj e1
 ·exact ⟨.int (j:Int),H,I.tok _,⟨_,rfl⟩,q⟩
end
section
variable {P:Program}{w:World}
def IsPairKey (P:Program) (w:World) (h:Heap) (k:List Int × Int) (a:Addr):Prop:=∃ o n b t,h.get? a=some o/\o.cls = .type "tuple"/\o.data = .seq #[.ref b, .int k.2 t] n/\IsTupleKey (j8 P w) h k.1 b
theorem IsPairKey.typeIs {s:Shared}{k:List Int × Int}{a:Addr}(x:IsPairKey P w s.heap k a):s.TypeIs (.ref a) "tuple":=let ⟨o,_,_,_,ho,hc,_⟩:=x;⟨o,ho,hc⟩
theorem IsPairKey.inj {h:Heap}{a:Addr}{x y:List Int × Int}(hx:IsPairKey P w h x a)(hy:IsPairKey P w h y a):x=y:=by
 obtain⟨o,n,b,t,ho,_,hd,hi⟩:=hx
 obtain⟨o',n',b',t',ho',_,hd',hi'⟩:=hy
 obtain rfl:o=o':=bf (ho.symm.trans ho')
 rw[hd] at hd'
 injection hd' with h1 _
 have h2:[Value.ref b, .int x.2 t]=[.ref b', .int y.2 t']:=congrArg yn h1
 injection h2 with h3 h4
 injection h4 with h5 _
 injection h3 with h3
 injection h5 with h5 _
 subst h3
 exact y2 (hi.inj hi') h5
theorem IsPairKey.keeps {h h':Heap}{k:List Int × Int}{a d:Addr}{o:Obj}{es ep}(x:IsPairKey P w h k a)(ho:h.get? d=some o)(hd:o.data = .dict es ep)(hs:ij d h h'):IsPairKey P w h' k a:=by
 obtain⟨o',n,b,t,ho',hc,hd',hi⟩:=x
 have hne:a≠d:=by
  rintro rfl
  obtain rfl:o'=o:=bf (ho'.symm.trans ho)
  rw[hd] at hd';exact nomatch hd'
 exact ⟨o',n,b,t,(hs.2 a hne).trans ho',hc,hd',hi.keeps ho hd hs⟩
def vO (P:Program) (w:World) (k:List Int × Int):Int:=wo (fi [me (j8 P w) k.1,(j8 P w).hash k.2])
variable {A:Around}{E:Value->Shared->Prop}{s:Shared}
theorem aAM {k:List Int × Int}{a:Addr}{Q:Int->Shared->Prop}(hu:A.units+5<cLine)(hk:IsPairKey P w s.heap k a)(h:Q (vO P w k) { s with toks:=s.toks+(k.1.length+3) }) :
  wpAny (model P w) A (pyHash (.ref a)) Q E s:=by
 have hT:=hk.typeIs
 obtain⟨o,n,b,t,ho,_,hd,hi⟩:=hk
 unfold pyHash
 first | unfold pyHashByItsType | skip
 first | refine ae (wpAny_cRoomFor_or (.inr (by omega)) ?_) | skip
 refine ae (nu hT o6.lookup ?_)
 show wpAny _ _ (if (some (Value.builtin "tuple.__hash__") == some Value.none)=true then _ else _) Q E s
 rw[if_neg (by rw[beq_builtin_none];exact br)]
 refine ae (nu hT o6.lookup ?_)
 show wpAny _ _ (callSpecialIfBoundUnlessNone? (.ref a) "__hash__" _ >>= _) Q E s
 refine ae (wpAny_callSpecialIfBoundUnlessNone?_slot hT o6 (e8 o6 hT F.entry_tuple_hash ?_ (F.args_tuple_hash_1 _)))
 show wpAny _ _ (mw (.ref a) >>= _) _ _ s
 refine ae (sk ho hd ?_)
 refine ae ?_
 rw[<- so]
 show wpAny _ _ (forIn [Value.ref b,Value.int k.2 t] #[] _) _ _ s
 rw[h7]
 refine ae (ae (wpAny_pyHash_tuple (knd:=j8 P w) (show A.units+1<cLine by omega) hi (ak ?_)))
 show wpAny _ _ (forIn [Value.int k.2 t] #[me (j8 P w) k.1] _) _ _ _
 rw[h7]
 refine ae (ae ((j8 P w).pyHash (k:=k.2) (v := .int k.2 t) (by show Value.isInt k.2 (.int k.2 t)=true;unfold Value.isInt;exact beq_self_eq_true _) (ak ?_)))
 show wpAny _ _ (forIn [] #[me (j8 P w) k.1,(j8 P w).hash k.2] _) _ _ _
 rw[jl]
 refine ak ?_
 show wpAny _ _ (retInt (fi [me (j8 P w) k.1,(j8 P w).hash k.2])) _ _ _
 refine wpAny_ret_mkInt ?_
 show wpAny _ _ (if (decide (-(2:Int) ^ 63<=fi [me (j8 P w) k.1,(j8 P w).hash k.2]) && decide (fi [me (j8 P w) k.1,(j8 P w).hash k.2]<2 ^ 63))=true then _ else _) Q E _
 unfold vO wo at h
 by_cases hr:(decide (-(2:Int) ^ 63<=fi [me (j8 P w) k.1,(j8 P w).hash k.2]) && decide (fi [me (j8 P w) k.1,(j8 P w).hash k.2]<2 ^ 63))=true
 ·rw[if_pos hr]
  rw[if_pos hr] at h
  exact ak (by simpa [Nat.add_assoc] using h)
 ·rw[if_neg hr]
  rw[if_neg hr] at h
  exact ae (mj (ak (by simpa [Nat.add_assoc] using h)))
theorem yS {x y:List Int × Int}{a b:Addr}{Pd:Fin->Shared->Prop}(hu:A.units<cLine)(hx:IsPairKey P w s.heap x a)(hy:IsPairKey P w s.heap y b)(h:Pd (.done (.ret (.bool (decide (x=y))))) s) :
  wpAny (model P w) A (Builtin.«tuple.__eq__» ⟨[.ref a, .ref b],[]⟩) Pd E s:=by
 have hTb:=hy.typeIs
 obtain⟨oa,na,ia,ta,hoa,_,hda,hia⟩:=hx
 obtain⟨ob,nb,ib,tb,hob,_,hdb,hib⟩:=hy
 show wpAny _ _ (wm (.ref b) (.type "tuple") >>= _) _ _ s
 refine ae (jx hTb o9 ?_)
 simp only [j5,e7,if_false]
 refine ae (sk hoa hda ?_)
 refine ae (sk hob hdb ?_)
 refine ae ?_
 show wpAny _ _ (forIn [(Value.ref ia,Value.ref ib),(Value.int x.2 ta,Value.int y.2 tb)] _ _) _ _ s
 rw[h7]
 refine ae (ae (wpAny_eqBool_tuple (knd:=j8 P w) hu hia hib ?_))
 by_cases h1:x.1=y.1
 ·rw[decide_eq_true h1]
  simp only [j5,e7,if_false]
  refine ak ?_
  show wpAny _ _ (forIn [(Value.int x.2 ta,Value.int y.2 tb)] _ _) _ _ s
  rw[h7]
  refine ae (ae (ve ?_))
  by_cases h2:x.2=y.2
  ·rw[show (x.2 == y.2)=true by rw[h2];exact beq_self_eq_true _]
   simp only [j5,e7,if_false]
   refine ak ?_
   show wpAny _ _ (forIn [] _ _) _ _ s
   rw[jl]
   refine ak (ak ?_)
   have e:decide (x=y)=true:=decide_eq_true (y2 h1 h2)
   rw[e] at h
   exact h
  ·rw[show (x.2 == y.2)=false by exact beq_false_of_ne h2]
   simp only [Bool.not_false,if_true]
   have e:decide (x=y)=false:=decide_eq_false fun z=>h2 (congrArg Prod.snd z)
   rw[e] at h
   exact ae (ak (ak (ak (ak h))))
 ·rw[decide_eq_false h1]
  simp only [Bool.not_false,if_true]
  have e:decide (x=y)=false:=decide_eq_false fun z=>h1 (congrArg Prod.fst z)
  rw[e] at h
  exact ae (ak (ak (ak (ak h))))
theorem aAo {x y:List Int × Int}{a b:Addr}{Q:Bool->Shared->Prop}(hu:A.units+5<cLine)(hx:IsPairKey P w s.heap x a)(hy:IsPairKey P w s.heap y b)(h:Q (decide (x=y)) s) :
  wpAny (model P w) A (eqBool (.ref a) (.ref b)) Q E s:=by
 unfold eqBool
 try with_reducible refine ft ?_
 show wpAny _ _ (if (Value.ref a == Value.ref b)=true then _ else _) Q E s
 by_cases hab:(Value.ref a == Value.ref b)=true
 ·rw[if_pos hab]
  have e:a=b:=by have:=yb hab;injection this
  subst e
  obtain rfl:=hx.inj hy
  exact ae (mj (ak (by simpa using h)))
 ·rw[if_neg hab]
  exact ae (wpAny_richCompare_same_room (op := .Eq) hx.typeIs hy.typeIs qw
   (e8 qw hx.typeIs F.entry_tuple_eq (yS (show A.units+1<cLine by omega) hx hy ⟨_,rfl,(fun e=>nomatch e),gp h⟩) (F.args_tuple_eq_2 _ _)) (by omega))
theorem aEV {ks:List Int}{a:Addr}{m:Nat}{Q:Bool->Shared->Prop}(hk:IsTupleKey (j8 P w) s.heap ks a)(h:Q true s):wpAny (model P w) A (zm (m+1) (.ref a)) Q E s:=by
 have hT:=hk.typeIs
 obtain⟨o,items,n,ho,_,hd,hi⟩:=hk
 unfold zm
 refine ae (nu hT qw.lookup ?_)
 show wpAny _ _ (wm (.ref a) (.type "tuple") >>= _) _ _ s
 refine ae (jx hT o9 ?_)
 simp only [j5,e7,if_false]
 refine ae (i7 ho hd ?_)
 refine ae ?_
 show wpAny _ _ (forIn items _ _) _ _ s
 rw[<- so]
 refine vg _ (fun rest r s'=>r.1=none/\s'=s/\∀ v∈rest,carriedByValue v=true) _ ?_ ?_ _ _ ⟨rfl,rfl,hi.byValue⟩
 ·rintro v rest r s' ⟨hr,rfl,hall⟩
  rw[eqIsQuiet_byValue _ (hall v dh)]
  refine ae (ak ?_)
  simp only [j5,e7,if_false]
  exact ak ⟨rfl,rfl,fun u hu'=>hall u (bu _ hu')⟩
 ·rintro ⟨r1,r2⟩ s' ⟨hr,rfl,_⟩
  simp only at hr
  subst hr
  exact ak h
theorem aCr {k:List Int × Int}{a:Addr}{Q:Bool->Shared->Prop}(hk:IsPairKey P w s.heap k a)(h:Q true s):wpAny (model P w) A (zm 8 (.ref a)) Q E s:=by
 have hT:=hk.typeIs
 obtain⟨o,n,b,t,ho,_,hd,hi⟩:=hk
 unfold zm
 refine ae (nu hT qw.lookup ?_)
 show wpAny _ _ (wm (.ref a) (.type "tuple") >>= _) _ _ s
 refine ae (jx hT o9 ?_)
 simp only [j5,e7,if_false]
 refine ae (i7 ho hd ?_)
 refine ae ?_
 show wpAny _ _ (forIn #[Value.ref b,Value.int k.2 t] _ _) _ _ s
 rw[<- so]
 show wpAny _ _ (forIn [Value.ref b,Value.int k.2 t] _ _) _ _ s
 rw[h7]
 refine ae (ae (aEV hi ?_))
 simp only [j5,e7,if_false]
 refine ak ?_
 show wpAny _ _ (forIn [Value.int k.2 t] _ _) _ _ s
 rw[h7,eqIsQuiet_byValue _ (v:=Value.int k.2 t) rfl]
 refine ae (ae (ak ?_))
 simp only [j5,e7,if_false]
 refine ak ?_
 show wpAny _ _ (forIn [] _ _) _ _ s
 rw[jl]
 exact ak (ak h)
def wT (P:Program) (w:World):HeapKind P w (List Int × Int) where
 is:=IsPairKey P w
 hash:=vO P w
 draws:=fun k=>k.1.length+3
 room:=fun A=>A.units+5<cLine
 inj:=fun hx hy=>hx.inj hy
 keeps:=fun x ho hd hs=>x.keeps ho hd hs
 pyHash:=fun hu hk h=>aAM hu hk h
 eqBool:=fun hu hx hy h=>aAo hu hx hy h
 quiet:=fun hk h=>aCr hk h
end
abbrev PKy:=List Int × Int
abbrev PEs:=List (PKy × Addr × V)
def aKe (k:PKy):Int:=wo (fi [wo (fi (k.1.map hashInt)),hashInt k.2])
abbrev aKD (p:PKy × Addr × V) (q:PKy × Addr × Value):Prop:=p.1=q.1/\p.2.1=q.2.1/\RelV p.2.2 q.2.2
def dpP (a:Addr) (xs:PEs) (ep:Nat) (h:Heap):Prop:=xs.length<=ba/\(a == t9)=false/\∃ ys:List (PKy × Addr × Value),Paired aKD xs ys /\
 ∃ o es,h.get? a=some o/\o.ExactDict/\o.data = .dict es ep/\es.toList=ys.map (fun y=>(⟨aKe y.1, .ref y.2.1,y.2.2⟩:DictEntry))/\(ys.map (·.1)).Nodup
def dpO (a:Addr) (xs:PEs) (ep:Nat):HO := .ext (dpP a xs ep)
def KeyP (H:Hp) (k:PKy) (c:Addr):Prop:=∃ b,H c=some (.tup [.ref b, .int k.2])/\H b=some (.tup (k.1.map V.int))
def DP (H:Hp) (a:Addr) (xs:PEs) (ep:Nat):Prop:=H a=some (dpO a xs ep)/\∀ x∈xs,KeyP H x.1 x.2.1
section
variable {P:Program}{w:World}{H:Hp}{h:Heap}{a c:Addr}{k:PKy}{xs:PEs}
theorem uP:∀ {ns:List Int} {its:List Value},Vals (ns.map V.int) its->ItemsAre (j8 P w) ns its
 | [],_, .nil => .nil
 | n :: ns,_, .cons r t=>by
  obtain⟨tk,rfl⟩:=r
  exact .cons (by show Value.isInt n (.int n tk)=true;unfold Value.isInt;exact beq_self_eq_true _) (uP t)
theorem KeyP.is (ok:HOk P w H h)(e:KeyP H k c):(wT P w).is h k c:=by
 obtain⟨b,e1,e2⟩:=e
 obtain⟨_,its,r,o,h1,h2,⟨n,h3⟩,_⟩:=(show ObjOk P w H h c (.tup [.ref b, .int k.2]) from ok c _ e1)
 obtain⟨_,its',r',o',h1',h2',⟨n',h3'⟩,_⟩:=(show ObjOk P w H h b (.tup (k.1.map V.int)) from ok b _ e2)
 obtain⟨u,v,rfl,ru,rv⟩:=r.two
 obtain rfl:u=Value.ref b:=ru
 obtain⟨t,rfl⟩:=rv
 exact ⟨o,n,b,t,h1,h2,h3,o',its'.toArray,n',h1',h2',h3',by simpa using uP r'⟩
theorem DP.of {ep:Nat}(ok:HOk P w H h)(e:DP H a xs ep):xs.length<=ba/\(a == t9)=false/\∃ ys,Paired aKD xs ys/\h.DictOfH (wT P w) a ys:=by
 obtain⟨z,y,ys,r,o,es,h1,h2,h3,h4,h5⟩:=(show dpP a xs ep h from (ok a _ e.1).1)
 refine ⟨z,y,ys,r,o,es,ep,h1,h2,h3,h4,?_,h5⟩
 have all:∀ {l:PEs} {m:List (PKy × Addr × Value)},Paired aKD l m->(∀ x∈l,KeyP H x.1 x.2.1)->∀ x∈m,(wT P w).is h x.1 x.2.1:=by
  intro l m q
  induction q with
  | nil=>intro _ x hx;exact nomatch hx
  | @cons p q ps qs hq t ih=>
   intro hk x hx
   rcases dk.mp hx with e | hx
   ·subst e
    have:=hk p (dh ..)
    rw[hq.1,hq.2.1] at this
    exact this.is ok
   ·exact ih (fun x hx=>hk x (bu _ hx)) x hx
 exact all r e.2
end
def aLO (K:aa) (H:Hp) (k:PKy) (c:Addr):Prop:=∃ b,SqT K H c [.ref b, .int k.2]/\SqT K H b (k.1.map V.int)
theorem KeyP.q {K:aa}{H:Hp}{k:PKy}{c:Addr}(e:KeyP H k c):aLO K H k c:=let ⟨b,h1,h2⟩:=e;⟨b, .of h1, .of h2⟩
section
variable {X:Cx}{o i value:Expr}{pos pos':Pos}{td ty tv:TE}
end
end L2
namespace L2
open PySem PySem.Spec PyProof.Rows
section
variable {prog:Program}{w:World}{A:Around}{E:Value->Shared->Prop}{s:Shared}{d:Addr}{o:Obj}{es:Array DictEntry}{ep:Nat}
end
end L2
namespace L2
open PySem
theorem eJ {H H':Hp}{p:Addr}{o:HO}(h:H p=none)(s:Same H H'):Same H (upd H' p o):=fun b u e=>by rw[bA (bO e h)];exact s _ _ e
section
variable {K:aa}
theorem aIu {H:Hp}{a:Addr}{rs:List V}{T:List (List Int)}(h:SqT K H a rs)(r:Rows K H rs T):Sh K H (pY T) (.ref a):=⟨a,rs,rfl,h,ShL.of_rows r.1 r.2⟩
theorem Sh.rowsT {H:Hp}{v:V}{T:List (List Int)}(h:Sh K H (pY T) v):∃ a rs,v = .ref a/\SqT K H a rs/\Rows K H rs T:=by
 obtain⟨a,rs,e,ha,hl,hr⟩:=h.tab
 exact ⟨a,rs,e,ha,hl,hr⟩
theorem aDY {σ:St}{H:Hp}{ta ti tv tb tj:TE}{p:Addr}{xs:List V}{i:Nat}{v:V}{Q:VK}(hp:SqT K H p xs)(hi:i<xs.length)(hz:xs.length<=1000)
  (hta:∀ H',Same H H'->∀ R:VK,R (.ref p) H'->ta σ H' R) (hti:∀ H' (R:VK),R (.int (i:Int)) H'->ti σ H' R) (htv:∀ H' (R:VK),R v H'->tv σ H' R) (htb:∀ H',Same H H'->∀ R:VK,R (.ref p) H'->tb σ H' R) (htj:∀ H' (R:VK),R (.int (i:Int)) H'->tj σ H' R)
  (q:∀ r H',Same H H'->SqT K H' r (xs.set i v)->Q (.ref r) H') :
  tOp (cM K) (tOp (cM K) (tSl (wI K) ta dX (iA ti)) (iN (aC tv aO))) (tSl (wI K) tb (iA (tOp (cM K) tj (tC (.int 1)))) dX) σ H Q:=by
 have hl:∀ {k:Nat},k<=1000->k<=ba:=fun h=>dg h (by decide)
 refine hta H (Same.refl _) _ (hti _ _ ⟨_,rfl, .inr ⟨p,xs,rfl,hp,fun p1 H1 s1 h1=>?_⟩⟩)
 rw[aJk (by omega)] at h1
 refine htv _ _ ⟨by show 1<=ba;decide,fun p2 hp2=>?_⟩
 refine .inr ⟨p1,p2,_,_,rfl,rfl,((aG hp2 _).tup h1), .of aD,?_,fun p3 H3 _ hq3 s3=>?_⟩
 ·rw[df,lu];exact hl (by omega)
 have s13:=s1.trans ((aG hp2 (.tup [v])).trans s3)
 refine htb H3 s13 _ (htj _ _ ⟨_,rfl, .inr ⟨p,xs,rfl,s13.tup hp,fun p4 H4 s4 h4=>?_⟩⟩)
 have e1:(i:Int)+1=((i+1:Nat):Int):=by omega
 rw[e1,aEG (by omega)] at h4
 refine .inr ⟨p3,p4,_,_,rfl,rfl,s4.tup hq3,h4,?_,fun p5 H5 _ hq5 s5=>q p5 H5 (s13.trans (s4.trans s5)) ?_⟩
 ·rw[az,df,lu,gv];exact hl (by omega)
 ·rw[List.set_eq_take_append_cons_drop,if_pos hi]
  rw[ip] at hq5
  exact hq5
end
open PySem.SeqAt
section
variable {X:Cx}
end
end L2
namespace L2
open PySem PySem.W PyProof.Rows
section
variable (r:Nat->Int)
def rlt (i j:Nat):Bool:=decide (r i<r j)
def bQ {α:Type}:KasT α->α
 | .ret a=>a
 | .ask i j k=>bQ (k (rlt r i j))
theorem fJ {α β:Type}{f:α->KasT β}:∀ t:KasT α,bQ r (t.bind f)=bQ r (f (bQ r t))
 | .ret _=>rfl
 | .ask i j k=>by
  show bQ r ((k (rlt r i j)).bind f)=_
  exact fJ (k (rlt r i j))
def Kr (p:Array Nat) (i:Nat):Int:=r (p.getD i 0)
def Srt (p:Array Nat) (n:Nat):Prop:=∀ i j,i<=j->j<n->Kr r p i<=Kr r p j
def Dsc (p:Array Nat) (n:Nat):Prop:=∀ i j,i<=j->j<n->Kr r p j<=Kr r p i
variable {r}
theorem lZ {p q:Array Nat}{i j:Nat}(h:p[i]?=q[j]?):Kr r p i=Kr r q j:=by
 unfold Kr
 rw[ei,ei,h]
theorem aEr {p:Array Nat}{a b:Nat}(h:Kr r p a<Kr r p b):rlt r (p.getD a 0) (p.getD b 0)=true:=decide_eq_true h
theorem aDk {p:Array Nat}{a b:Nat}(h:¬ Kr r p a<Kr r p b):¬ rlt r (p.getD a 0) (p.getD b 0)=true:=fun e=>h (of_decide_eq_true e)
theorem aGJ {p:Array Nat}{i j:Nat}(hj:j<=p.size)(k:Nat):Kr r (ph p i j) k=if i<=k/\k<j then Kr r p (i+j - 1 - k) else Kr r p k:=by
 have:=getElem?_mirror_all (i:=i) hj k
 by_cases c:i<=k/\k<j
 ·rw[if_pos c] at this ⊢;exact lZ this
 ·rw[if_neg c] at this ⊢;exact lZ this
theorem aKl {p:Array Nat}{src d:Nat}(hs:src<p.size)(hd:d<=src)(k:Nat):Kr r (bubble p src d) k=if k=src - d then Kr r p src else if src - d<k/\k<=src then Kr r p (k - 1) else Kr r p k:=by
 have:=getElem?_bubble hs d hd k
 by_cases c:k=src - d
 ·rw[if_pos c] at this ⊢;exact lZ this
 ·rw[if_neg c] at this ⊢
  by_cases e:src - d<k/\k<=src
  ·rw[if_pos e] at this ⊢;exact lZ this
  ·rw[if_neg e] at this ⊢;exact lZ this
theorem fW (p:Array Nat)(i j:Nat):(ph p i j).Perm p:=mirror_perm _ _ _ _
theorem aAN {p:Array Nat}:∀ f n,1<=n->Srt r p n->n<=bQ r (u4 p f n)/\bQ r (u4 p f n)<=n+f/\Srt r p (bQ r (u4 p f n))/\(bQ r (u4 p f n)<n+f->Kr r p (bQ r (u4 p f n))<Kr r p (bQ r (u4 p f n) - 1))
 | 0,n,h1,hs=>⟨bg _,bg _,hs,fun h=>absurd h (jz _)⟩
 | f+1,n,h1,hs=>by
  have e:bQ r (u4 p (f+1) n)=bQ r (if rlt r (p.getD n 0) (p.getD (n - 1) 0)=true then .ret n else u4 p f (n+1)):=rfl
  rw[e]
  by_cases c:Kr r p n<Kr r p (n - 1)
  ·rw[if_pos (aEr c)]
   exact ⟨bg _,jh _ _,hs,fun _=>c⟩
  ·rw[if_neg (aDk c)]
   obtain⟨a1,a2,a3,a4⟩:=aAN (p:=p) f (n+1) (by omega) fun i j hij hj=>by
    by_cases e1:j=n
    ·subst e1
     by_cases e2:i=j
     ·subst e2;omega
     ·have:=hs i (j - 1) (by omega) (by omega);omega
    ·exact hs i j hij (by omega)
   exact ⟨by omega,by omega,a3,fun h=>a4 (by omega)⟩
theorem wE {p:Array Nat}{i j:Nat}(hj:j<=p.size)(h:∀ k,i<=k->k<j->Kr r p k=Kr r p (j - 1))(k:Nat):Kr r (ph p i j) k=Kr r p k:=by
 rw[aGJ hj]
 split
 ·next c=>rw[h _ (by omega) (by omega),h k c.1 c.2]
 ·rfl
theorem qL:∀ f (p:Array Nat) n q,1<=n->n+f<=p.size->q<n->Dsc r p n->(∀ i,n - (q+1)<=i->i<n->Kr r p i=Kr r p (n - 1))->∀ R,R=bQ r (sr f p n q) ->
  R.1.size=p.size/\R.1.Perm p/\n<=R.2.1/\R.2.1<=n+f/\R.2.2<R.2.1/\Dsc r R.1 R.2.1/\∀ i,R.2.1 - (R.2.2+1)<=i->i<R.2.1->Kr r R.1 i=Kr r R.1 (R.2.1 - 1)
 | 0,p,n,q,h1,hz,hq,hd,he,R,hR=>by subst hR;exact ⟨rfl,nv _,bg _,bg _,hq,hd,he⟩
 | f+1,p,n,q,h1,hz,hq,hd,he,R,hR=>by
  have e:bQ r (sr (f+1) p n q)=bQ r (if rlt r (p.getD n 0) (p.getD (n - 1) 0)=true then (if q > 0 then sr f (ph p (n - (q+1)) n) (n+1) 0 else sr f p (n+1) 0) else .ask (p.getD (n - 1) 0) (p.getD n 0) fun d=>if d=true then .ret (p,n,q) else sr f p (n+1) (q+1)):=rfl
  rw[e] at hR
  by_cases c:Kr r p n<Kr r p (n - 1)
  ·rw[if_pos (aEr c)] at hR
   have hd1:Dsc r p (n+1):=fun i j hij hj=>by
    by_cases e1:j=n
    ·subst e1
     by_cases e2:i=j
     ·subst e2;omega
     ·have:=hd i (j - 1) (by omega) (by omega);omega
    ·exact hd i j hij (by omega)
   by_cases c2:q > 0
   ·rw[if_pos c2] at hR
    have kk:=fun k=>wE (r:=r) (p:=p) (i:=n - (q+1)) (j:=n) (by omega) he k
    have sz:(ph p (n - (q+1)) n).size=p.size:=xo _ _ _ _
    obtain⟨a1,a2,a3,a4,a5,a6,a7⟩:=qL f (ph p (n - (q+1)) n) (n+1) 0 (by omega) (by rw[sz];omega) (by omega) (fun i j hij hj=>by rw[kk,kk];exact hd1 i j hij hj) (fun i h2 h3=>by rw[show i=n by omega];rfl) R hR
    exact ⟨a1.trans sz,a2.trans (fW _ _ _),by omega,by omega,a5,a6,a7⟩
   ·rw[if_neg c2] at hR
    obtain⟨a1,a2,a3,a4,a5,a6,a7⟩:=qL f p (n+1) 0 (by omega) (by omega) (by omega) hd1 (fun i h2 h3=>by rw[show i=n by omega];rfl) R hR
    exact ⟨a1,a2,by omega,by omega,a5,a6,a7⟩
  ·rw[if_neg (aDk c)] at hR
   have e2:bQ r (KasT.ask (p.getD (n - 1) 0) (p.getD n 0) fun d=>if d=true then .ret (p,n,q) else sr f p (n+1) (q+1))=bQ r (if rlt r (p.getD (n - 1) 0) (p.getD n 0)=true then .ret (p,n,q) else sr f p (n+1) (q+1)):=rfl
   rw[e2] at hR
   by_cases d:Kr r p (n - 1)<Kr r p n
   ·rw[if_pos (aEr d)] at hR
    subst hR
    exact ⟨rfl,nv _,bg _,jh _ _,hq,hd,he⟩
   ·rw[if_neg (aDk d)] at hR
    obtain⟨a1,a2,a3,a4,a5,a6,a7⟩:=qL f p (n+1) (q+1) (by omega) (by omega) (by omega) (fun i j hij hj=>by
     by_cases e1:j=n
     ·subst e1
      by_cases e2:i=j
      ·subst e2;omega
      ·have:=hd i (j - 1) (by omega) (by omega);omega
     ·exact hd i j hij (by omega)) (fun i h2 h3=>by
     show Kr r p i=Kr r p n
     by_cases e1:i=n
     ·rw[e1]
     ·have:=he i (by omega) (by omega);omega) R hR
    exact ⟨a1,a2,by omega,by omega,a5,a6,a7⟩
def aET (r:Nat->Int) (nrem n:Nat) (p:Array Nat) (R:Nat × Array Nat):Prop:=R.2.size=p.size/\R.2.Perm p/\n<=R.1/\R.1<=nrem/\Srt r R.2 R.1
theorem yX {n nrem:Nat}{p:Array Nat}(h1:1<=n)(hn:n<=nrem)(hz:nrem<=p.size)(hd:Dsc r p n):aET r nrem n p (bQ r (zo n nrem p)):=by
 unfold zo
 rw[fJ]
 have hs:Srt r (ph p 0 n) n:=fun i j hij hj=>by
  rw[aGJ (by omega),aGJ (by omega),if_pos ⟨by omega,by omega⟩,if_pos ⟨by omega,hj⟩]
  exact hd _ _ (by omega) (by omega)
 obtain⟨a1,a2,a3,_⟩:=aAN (p:=ph p 0 n) (nrem - n) n h1 hs
 exact ⟨xo _ _ _ _,fW _ _ _,a1,by show bQ r _<=_;omega,a3⟩
theorem oW {n nrem:Nat}{p:Array Nat}(hn:n+1<=nrem)(hz:nrem<=p.size)(hd:Dsc r p (n+1)):aET r nrem 1 p (bQ r (su n nrem p)):=by
 unfold su
 rw[fJ]
 obtain⟨a1,a2,a3,a4,a5,a6,a7⟩:=qL (nrem - (n+1)) p (n+1) 0 (by omega) (by omega) (by omega) hd (fun i h2 h3=>by rw[show i=n by omega];rfl) _ rfl
 generalize bQ r (sr (nrem - (n+1)) p (n+1) 0)=R at a1 a2 a3 a4 a5 a6 a7 ⊢
 by_cases c:R.2.2 > 0
 ·rw[if_pos c]
  have kk:=fun k=>wE (r:=r) (p:=R.1) (i:=R.2.1 - (R.2.2+1)) (j:=R.2.1) (by omega) a7 k
  have sz:(ph R.1 (R.2.1 - (R.2.2+1)) R.2.1).size=R.1.size:=xo _ _ _ _
  obtain⟨b1,b2,b3,b4,b5⟩:=yX (r:=r) (n:=R.2.1) (nrem:=nrem) (p:=ph R.1 (R.2.1 - (R.2.2+1)) R.2.1) (by omega) (by omega) (by rw[sz];omega) fun i j hij hj=>by rw[kk,kk];exact a6 i j hij hj
  exact ⟨b1.trans (sz.trans a1),b2.trans ((fW _ _ _).trans a2),by omega,b4,b5⟩
 ·rw[if_neg c]
  obtain⟨b1,b2,b3,b4,b5⟩:=yX (r:=r) (n:=R.2.1) (nrem:=nrem) (p:=R.1) (by omega) (by omega) (by omega) a6
  exact ⟨b1.trans a1,b2.trans a2,by omega,b4,b5⟩
theorem aEj {nrem:Nat}{p:Array Nat}(h1:1<=nrem)(hz:nrem<=p.size):aET r nrem 1 p (bQ r (yc nrem p)):=by
 unfold yc
 rw[fJ]
 obtain⟨a1,a2,a3,a4⟩:=aAN (r:=r) (p:=p) (nrem - 1) 1 (bg _) fun i j hij hj=>by rw[show i=j by omega];omega
 generalize bQ r (u4 p (nrem - 1) 1)=n at a1 a2 a3 a4 ⊢
 by_cases c:(n == nrem)=true
 ·rw[if_pos c]
  exact ⟨rfl,nv _,a1,by show n<=nrem;omega,a3⟩
 ·rw[if_neg c]
  have cn:n≠nrem:=fun e=>c (by rw[e];exact beq_self_eq_true _)
  have lt:=a4 (by omega)
  by_cases d:n > 1
  ·rw[if_pos d]
   show aET r nrem 1 p (bQ r (if rlt r (p.getD 0 0) (p.getD (n - 1) 0)=true then .ret (n,p) else su n nrem (ph p 0 n)))
   by_cases e:Kr r p 0<Kr r p (n - 1)
   ·rw[if_pos (aEr e)]
    exact ⟨rfl,nv _,a1,by show n<=nrem;omega,a3⟩
   ·rw[if_neg (aDk e)]
    have eq:∀ k,0<=k->k<n->Kr r p k=Kr r p (n - 1):=fun k _ hk=>by
     have g1:=a3 0 k (by omega) hk
     have g2:=a3 k (n - 1) (by omega) (by omega)
     omega
    have kk:=fun k=>wE (r:=r) (p:=p) (i:=0) (j:=n) (by omega) eq k
    have sz:(ph p 0 n).size=p.size:=xo _ _ _ _
    obtain⟨b1,b2,b3,b4,b5⟩:=oW (r:=r) (n:=n) (nrem:=nrem) (p:=ph p 0 n) (by omega) (by rw[sz];omega) fun i j hij hj=>by
     rw[kk,kk]
     by_cases e1:j=n
     ·subst e1
      by_cases e2:i=j
      ·subst e2;omega
      ·have:=eq i (by omega) (by omega);omega
     ·have g1:=eq i (by omega) (by omega)
      have g2:=eq j (by omega) (by omega)
      omega
    exact ⟨b1.trans sz,b2.trans (fW _ _ _),b3,b4,b5⟩
  ·rw[if_neg d]
   refine oW (by omega) hz fun i j hij hj=>?_
   have:n=1:=by omega
   subst this
   by_cases e2:i=j
   ·subst e2;omega
   ·rw[show i=0 by omega,show j=1 by omega]
    exact pe lt
theorem qU {p:Array Nat}{k:Nat}(hs:Srt r p k):∀ f l q,l<=q->q<=k->q - l<=f->(∀ i,i<l->Kr r p i<=Kr r p k)->(∀ i,q<=i->i<k->Kr r p k<Kr r p i) ->
  ∀ m,m=bQ r (m7 p k f l q)->m<=k/\(∀ i,i<m->Kr r p i<=Kr r p k)/\∀ i,m<=i->i<k->Kr r p k<Kr r p i
 | 0,l,q,h1,h2,h3,ha,hb,m,hm=>by
  obtain rfl:m=l:=hm
  exact ⟨by omega,ha,fun i hi hk=>hb i (by omega) hk⟩
 | f+1,l,q,h1,h2,h3,ha,hb,m,hm=>by
  have e:bQ r (m7 p k (f+1) l q)=bQ r (if l≥q then .ret l else .ask (p.getD k 0) (p.getD ((l+q) / 2) 0) fun c=>if c=true then m7 p k f l ((l+q) / 2) else m7 p k f ((l+q) / 2+1) q):=rfl
  rw[e] at hm
  by_cases c:l≥q
  ·rw[if_pos c] at hm
   obtain rfl:m=l:=hm
   exact ⟨by omega,ha,fun i hi hk=>hb i (by omega) hk⟩
  ·rw[if_neg c] at hm
   have e2:bQ r (KasT.ask (p.getD k 0) (p.getD ((l+q) / 2) 0) fun c=>if c=true then m7 p k f l ((l+q) / 2) else m7 p k f ((l+q) / 2+1) q)=bQ r (if rlt r (p.getD k 0) (p.getD ((l+q) / 2) 0)=true then m7 p k f l ((l+q) / 2) else m7 p k f ((l+q) / 2+1) q):=rfl
   rw[e2] at hm
   by_cases d:Kr r p k<Kr r p ((l+q) / 2)
   ·rw[if_pos (aEr d)] at hm
    exact qU hs f l ((l+q) / 2) (by omega) (by omega) (by omega) ha (fun i hi hk=>by have:=hs ((l+q) / 2) i hi hk;omega) m hm
   ·rw[if_neg (aDk d)] at hm
    exact qU hs f ((l+q) / 2+1) q (by omega) h2 (by omega) (fun i hi=>by have:=hs i ((l+q) / 2) (by omega) (by omega);omega) hb m hm
theorem aDZ:∀ f (p:Array Nat) k,k+f<=p.size->Srt r p k->(bQ r (zp f p k)).Perm p/\(bQ r (zp f p k)).size=p.size/\Srt r (bQ r (zp f p k)) (k+f)
 | 0,p,k,hz,hs=>⟨nv _,rfl,hs⟩
 | f+1,p,k,hz,hs=>by
  have e:bQ r (zp (f+1) p k)=bQ r (zp f (bubble p k (k - bQ r (m7 p k k 0 k))) (k+1)):=fJ (r:=r) _
  rw[e]
  obtain⟨a1,a2,a3⟩:=qU hs k 0 k (by omega) (by omega) (by omega) (fun i hi=>by omega) (fun i h1 h2=>by omega) _ rfl
  generalize bQ r (m7 p k k 0 k)=l at a1 a2 a3 ⊢
  have sz:(bubble p k (k - l)).size=p.size:=bubble_size _ _ _
  have kb:=fun i=>aKl (r:=r) (p:=p) (src:=k) (d:=k - l) (by omega) (by omega) i
  obtain⟨b1,b2,b3⟩:=aDZ f (bubble p k (k - l)) (k+1) (by rw[sz];omega) fun i j hij hj=>by
   rw[kb,kb]
   have g1:∀ i,i<l->Kr r p i<=Kr r p k:=a2
   have g2:∀ i,l<=i->i<k->Kr r p k<Kr r p i:=a3
   by_cases i1:i=k - (k - l) <;> by_cases j1:j=k - (k - l)
   ·rw[if_pos i1,if_pos j1];omega
   ·rw[if_pos i1,if_neg j1,if_pos ⟨by omega,by omega⟩]
    exact pe (g2 _ (by omega) (by omega))
   ·rw[if_neg i1,if_pos j1,if_neg (by omega)]
    exact g1 i (by omega)
   ·rw[if_neg i1,if_neg j1]
    by_cases i2:k - (k - l)<i/\i<=k
    ·rw[if_pos i2,if_pos ⟨by omega,by omega⟩]
     exact hs _ _ (by omega) (by omega)
    ·rw[if_neg i2]
     by_cases j2:k - (k - l)<j/\j<=k
     ·rw[if_pos j2]
      exact hs _ _ (by omega) (by omega)
     ·rw[if_neg j2]
      exact hs _ _ hij (by omega)
  exact ⟨b1.trans (bubble_perm _ _ _),b2.trans sz,by rw[show k+(f+1)=k+1+f by omega];exact b3⟩
theorem aFE {n:Nat}(h1:1<=n):(bQ r (nz n)).Perm (iq (av n))/\(bQ r (nz n)).size=n/\Srt r (bQ r (nz n)) n:=by
 unfold nz
 rw[fJ]
 have hz:(iq (av n)).size=n:=by simp
 obtain⟨a1,a2,a3,a4,a5⟩:=aEj (r:=r) (nrem:=n) (p:=iq (av n)) h1 (by omega)
 generalize bQ r (yc n (iq (av n)))=R at a1 a2 a3 a4 a5 ⊢
 by_cases c:R.1<n
 ·rw[if_pos c]
  obtain⟨b1,b2,b3⟩:=aDZ (r:=r) (n - max R.1 1) R.2 (max R.1 1) (by omega) (by rw[show max R.1 1=R.1 by omega];exact a5)
  exact ⟨b1.trans a2,by omega,by rw[show max R.1 1+(n - max R.1 1)=n by omega] at b3;exact b3⟩
 ·rw[if_neg c]
  exact ⟨a2,by show R.2.size=n;omega,by rw[show R.1=n by omega] at a5;exact a5⟩
end
section
variable {N:Nat}
def Bnd (N:Nat) (p:Array Nat):Prop:=∀ k,p.getD k 0<N
theorem Bnd.perm {p q:Array Nat}(hN:0<N)(h:Bnd N p)(e:q.Perm p):Bnd N q:=fun k=>by
 rw[ei]
 by_cases c:k<q.size
 ·rw[d7 c]
  have hm:q[k]∈p:=e.mem_iff.mp (Array.getElem_mem c)
  obtain⟨i,hi,e2⟩:=Array.getElem_of_mem hm
  have:=h i
  rw[ei,d7 hi] at this
  show q[k]<N
  rw[<- e2]
  exact this
 ·rw[jr (by omega)]
  exact hN
def AskP (N:Nat) {α:Type} (P:α->Prop):KasT α->Prop
 | .ret a=>P a
 | .ask i j k=>i<N/\j<N/\∀ b,AskP N P (k b)
theorem AskP.bind {α β:Type}{f:α->KasT β}{P:α->Prop}{Q:β->Prop}(hf:∀ a,P a->AskP N Q (f a)):∀ t:KasT α,AskP N P t->AskP N Q (t.bind f)
 | .ret a,h=>hf a h
 | .ask i j k,h=>⟨h.1,h.2.1,fun b=>AskP.bind hf (k b) (h.2.2 b)⟩
theorem AskP.ite {α:Type}{P:α->Prop}{c:Prop}[Decidable c]{t u:KasT α}(h1:c->AskP N P t)(h2:¬ c->AskP N P u):AskP N P (if c then t else u):=by
 by_cases h:c
 ·rw[if_pos h];exact h1 h
 ·rw[if_neg h];exact h2 h
theorem aAr {p:Array Nat}(hb:Bnd N p):∀ f n,AskP N (fun _=>True) (u4 p f n)
 | 0,n=>trivial
 | f+1,n=>⟨hb _,hb _,fun b=>AskP.ite (fun _=>trivial) fun _=>aAr hb f (n+1)⟩
theorem qN (hN:0<N):∀ f (p:Array Nat) n q,Bnd N p->AskP N (fun R=>Bnd N R.1) (sr f p n q)
 | 0,p,n,q,hb=>hb
 | f+1,p,n,q,hb=>⟨hb _,hb _,fun b=>AskP.ite (fun _=>AskP.ite (fun _=>qN hN f _ _ _ (hb.perm hN (fW _ _ _))) fun _=>qN hN f _ _ _ hb) fun _=>⟨hb _,hb _,fun d=>AskP.ite (fun _=>hb) fun _=>qN hN f _ _ _ hb⟩⟩
theorem yF (hN:0<N){n nrem:Nat}{p:Array Nat}(hb:Bnd N p):AskP N (fun R:Nat × Array Nat=>Bnd N R.2) (zo n nrem p):=by
 unfold zo
 refine AskP.bind (P:=fun _=>True) (fun a _=>?_) _ (aAr (hb.perm hN (fW _ _ _)) _ _)
 exact hb.perm hN (fW _ _ _)
theorem pI (hN:0<N){n nrem:Nat}{p:Array Nat}(hb:Bnd N p):AskP N (fun R:Nat × Array Nat=>Bnd N R.2) (su n nrem p):=by
 unfold su
 refine AskP.bind (fun R hR=>?_) _ (qN hN _ _ _ _ hb)
 exact AskP.ite (fun _=>yF hN (Bnd.perm hN hR (fW _ _ _))) fun _=>yF hN hR
theorem aEh (hN:0<N){nrem:Nat}{p:Array Nat}(hb:Bnd N p):AskP N (fun R:Nat × Array Nat=>Bnd N R.2) (yc nrem p):=by
 unfold yc
 refine AskP.bind (P:=fun _=>True) (fun n _=>?_) _ (aAr hb _ _)
 refine AskP.ite (fun _=>?_) fun _=>AskP.ite (fun _=>⟨hb _,hb _,fun c=>AskP.ite (fun _=>?_) fun _=>pI hN (hb.perm hN (fW _ _ _))⟩) fun _=>pI hN hb
 ·exact hb
 ·exact hb
theorem qW {p:Array Nat}{k:Nat}(hb:Bnd N p):∀ f l q,AskP N (fun _=>True) (m7 p k f l q)
 | 0,l,q=>trivial
 | f+1,l,q=>AskP.ite (fun _=>trivial) fun _=>⟨hb _,hb _,fun c=>AskP.ite (fun _=>qW hb f _ _) fun _=>qW hb f _ _⟩
theorem aDI (hN:0<N):∀ f (p:Array Nat) k,Bnd N p->AskP N (fun _=>True) (zp f p k)
 | 0,p,k,hb=>trivial
 | f+1,p,k,hb=>AskP.bind (fun l _=>aDI hN f _ _ (hb.perm hN (bubble_perm _ _ _))) _ (qW hb _ _ _)
theorem aEE (hN:0<N):AskP N (fun _=>True) (nz N):=by
 have hb:Bnd N (iq (av N)):=fun k=>by
  rw[ei]
  by_cases c:k<N
  ·simp [c]
  ·simp [c,hN]
 unfold nz
 refine AskP.bind (fun R hR=>?_) _ (aEh hN hb)
 refine AskP.ite (fun _=>aDI hN _ _ _ hR) fun _=>?_
 exact trivial
theorem aGh {r:Nat->Int}{cmp:Nat->Nat->(Bool->Shared->Prop)->Shared->Prop}{s:Shared}(hc:∀ i j C,i<N->j<N->C (rlt r i j) s->cmp i j C s){α:Type}{P:α->Prop}{Q:α->Shared->Prop}:∀ t:KasT α,AskP N P t->Q (bQ r t) s->t.kasWp cmp Q s
 | .ret a,_,h=>h
 | .ask i j k,ha,h=>hc i j _ ha.1 ha.2.1 (aGh hc (k (rlt r i j)) (ha.2.2 _) h)
end
theorem aBR:∀ {a b:List Int},lexL a b=false->lexL b a=false->a=b
 | [],[],_,_=>rfl
 | [],_ :: _,h,_=>by cases h
 | _ :: _,[],_,h=>by cases h
 | x :: a,y :: b,h1,h2=>by
  rw[lexL] at h1 h2
  by_cases e:x=y
  ·subst e
   rw[if_pos rfl] at h1 h2
   rw[aBR h1 h2]
  ·rw[if_neg e] at h1
   rw[if_neg (ig e)] at h2
   have g1:=of_decide_eq_false h1
   have g2:=of_decide_eq_false h2
   omega
def aAQ (R:List (List Int)) (i:Nat):Int:=((R.countP fun q=>lexL q (R.getD i [])):Nat)
theorem yB {p q:List Int->Bool}:∀ {l:List (List Int)},(∀ x∈l,p x=true->q x=true)->(∃ x∈l,p x=false/\q x=true)->l.countP p<l.countP q
 | [],_,⟨_,h,_⟩=>by cases h
 | a :: l,h,⟨x,hx,h1,h2⟩=>by
  have mono:l.countP p<=l.countP q:=v8 fun x hx=>h x (bu _ hx)
  rw[pk,pk]
  rcases dk.mp hx with e | hx
  ·subst e
   rw[h1,h2]
   simp
   omega
  ·have ih:=yB (fun x hx=>h x (bu _ hx)) ⟨x,hx,h1,h2⟩
   have ha:=h a (dh ..)
   cases e1:p a with
   | false=>simp;split <;> omega
   | true=>rw[ha e1];simp;omega
theorem aAA {R:List (List Int)}{i j:Nat}(hi:i<R.length)(hj:j<R.length):(aAQ R i<aAQ R j)↔lexL (R.getD i []) (R.getD j [])=true:=by
 have mem:∀ k,k<R.length->R.getD k []∈R:=fun k hk=>by
  rw[ao,ah hk];exact jw hk
 unfold aAQ
 constructor
 ·intro h
  cases e:lexL (R.getD i []) (R.getD j []) with
  | true=>rfl
  | false=>
   exfalso
   have:R.countP (fun q=>lexL q (R.getD j []))<=R.countP (fun q=>lexL q (R.getD i [])):=v8 fun x _ hx=>by
    cases e2:lexL (R.getD j []) (R.getD i []) with
    | true=>exact oJ hx e2
    | false=>rw[aBR e e2];exact hx
   omega
 ·intro h
  have:=yB (l:=R) (p:=fun q=>lexL q (R.getD i [])) (q:=fun q=>lexL q (R.getD j [])) (fun x _ hx=>oJ hx h) ⟨_,mem i hi,mQ _,h⟩
  omega
section
variable {prog:Program}{w:World}{A:Around}{E:Value->Shared->Prop}{s:Shared}
def Put (R:List (List Int)) (p:Array Nat):Prop:=p.Perm (iq (av R.length))/\∀ i j,i<=j->j<R.length->lexL (R.getD (p.getD j 0) []) (R.getD (p.getD i 0) [])=false
end
section
variable {prog:Program}{w:World}{A:Around}{E:Value->Shared->Prop}{s:Shared}
end
theorem aFi {R:List (List Int)}{p:Array Nat}(h:Put R p):(p.toList.map fun i=>R.getD i []).Perm R/\(p.toList.map fun i=>R.getD i []).Pairwise (fun a b=>lexL b a=false):=by
 have pl:p.toList.Perm (av R.length):=by simpa using mx.mp h.1
 have e:(av R.length).map (fun i=>R.getD i [])=R:=by
  apply pw
  ·simp
  ·intro i h1 h2
   rw[jy,n4,ao,ah h2];rfl
 have hl:p.size=R.length:=by rw[<- dw,pl.length_eq,dy]
 refine ⟨by have:=pl.map fun i=>R.getD i [];rw[e] at this;exact this,?_⟩
 rw[tw]
 intro i j hi hj hij
 rw[af,dw] at hi hj
 have:=h.2 i j (by omega) (by omega)
 rw[ei,d7 hj,ei,d7 hi] at this
 rw[jy,jy,w5,w5]
 exact this
end L2
namespace L2
open PySem PyProof.Rows
theorem aEO (r q:List Int):eqD (.tup (r.map Dt.int)) (.tup (q.map Dt.int))=decide (r=q):=by
 by_cases h:r=q
 ·subst h;rw[wK,decide_eq_true rfl]
 ·rw[decide_eq_false h]
  cases e:eqD (.tup (r.map Dt.int)) (.tup (q.map Dt.int)) with
  | false=>rfl
  | true=>rw[eqD] at e;exact absurd (qF e) h
def aLm (K:aa) (neg:Bool):R2:=fun x y H Q=>∃ (b p:Addr) (r:List Int) (xs:List V) (R:List (List Int)),x = .ref b/\y = .ref p/\SqT K H b (r.map V.int)/\Sq K H p xs/\Rows K H xs R/\Q (.bl (if neg then !decide (r∈R) else decide (r∈R))) H
section
variable {X:Cx}
theorem aBm {pins:List (Addr × Obj)}{σ:St}{H:Hp}{s:Shared}{b:Addr}{r:List Int}{xs:List V}{R:List (List Int)}{its:List Value}(hu:X.A.units+103<cLine)(I:Inv X pins σ H s)(hb:SqT X.K H b (r.map V.int))(hR:Rows X.K H xs R)(rv:Vals xs its) :
  ∃ e:Value->Bool,(∀ u,u∈its->fz X.A.in1 s u (.ref b) (e u))/\its.any e=decide (r∈R):=by
 classical
 have hl:=rv.length
 have row_of:∀ i (hi:i<its.length),∃ c,∃ hR':i<R.length,its[i] = .ref c/\SqT X.K H c (R[i].map V.int):=fun i hi=>by
  have hR':i<R.length:=by rw[<- hR.1,hl];exact hi
  obtain⟨c,e1,e2⟩:=hR.2 i R[i] (ah hR')
  obtain⟨u,eu,rU⟩:=rv.get e1
  rw[ah hi] at eu
  cases eu
  exact ⟨c,hR',rU,e2⟩
 refine ⟨fun u=>decide (∃ c,u = .ref c/\SqT X.K H c (r.map V.int)),fun u hu'=>?_,?_⟩
 ·obtain⟨i,hi,rfl⟩:=qx hu'
  obtain⟨c,hR',e1,e2⟩:=row_of i hi
  rw[e1]
  have sh:∀ (q:List Int) (a:Addr),SqT X.K H a (q.map V.int)->Sh X.K H (.tup (q.map Dt.int)) (.ref a):=fun q a h=>⟨a,_,rfl,h,ShL.ints q⟩
  have g:=(I.eq_sh 100 X.A.in1 (.tup (R[i].map Dt.int)) (.tup (r.map Dt.int)) (.ref c) (.ref b) (.ref c) (.ref b) (by rw[dep,gT];decide) (by show X.A.units+1+100<cLine;omega) rfl rfl (sh _ _ e2) (sh _ _ hb)).2
  rw[aEO] at g
  have ee:decide (R[i]=r)=decide (∃ c',Value.ref c = .ref c'/\SqT X.K H c' (r.map V.int)):=by
   by_cases h:R[i]=r
   ·rw[decide_eq_true h,decide_eq_true ⟨c,rfl,h ▸ e2⟩]
   ·rw[decide_eq_false h,decide_eq_false]
    rintro ⟨c',e,h'⟩
    cases e
    have:=I.tuple_inj e2 h'
    exact h ((sv fun a b z=>V.int.inj z).mp this)
  show fz X.A.in1 s (Value.ref c) (Value.ref b) (decide (∃ c',Value.ref c = .ref c'/\SqT X.K H c' (r.map V.int)))
  rw[<- ee]
  exact g
 ·by_cases h:r∈R
  ·rw[decide_eq_true h]
   obtain⟨i,hi,e⟩:=qx h
   have hi':i<its.length:=by rw[<- hl,hR.1];exact hi
   obtain⟨c,_,e1,e2⟩:=row_of i hi'
   rw[List.any_eq_true]
   exact ⟨its[i],jw _,by rw[e1];exact decide_eq_true ⟨c,rfl,e ▸ e2⟩⟩
  ·rw[decide_eq_false h,List.any_eq_false]
   intro u hu'
   obtain⟨i,hi,rfl⟩:=qx hu'
   obtain⟨c,hR',e1,e2⟩:=row_of i hi
   rw[decide_eq_true_iff]
   rintro ⟨c',e,h'⟩
   rw[e1] at e
   cases e
   have:=I.tuple_inj e2 h'
   exact h ((sv fun a b z=>V.int.inj z).mp this ▸ jw hR')
theorem aDJ (hu:X.A.units+103<cLine):OpR X (gj .NotIn) (aLm X.K true):=by
 intro pins s σ H x y v u Q I rx ry ⟨b,p,r,xs,R,e1,e2,hb,hq,hR,q⟩
 subst e1 e2
 cases rx
 cases ry
 rcases hq with hq | hq
 ·obtain⟨its,rv,pl,_⟩:=I.list hq
  obtain⟨e,h1,h2⟩:=aBm hu I hb hR rv
  refine SeqAt.notIn_listAt e pl.isList (fun w hw=>h1 w (by simpa using hw)) ⟨.bl _,H,I,rfl,?_⟩
  rw[show its.toArray.any e=its.any e by simp,h2]
  exact q
 ·obtain⟨its,rv,pl,_⟩:=I.tuple hq
  obtain⟨e,h1,h2⟩:=aBm hu I hb hR rv
  refine xl e pl (fun w hw=>h1 w (by simpa using hw)) ⟨.bl _,H,I,rfl,?_⟩
  rw[show its.toArray.any e=its.any e by simp,h2]
  exact q
end
def aLz (K:aa) (neg:Bool):R2:=fun x y H Q=>rIn K neg x y H Q\/aLm K neg x y H Q
theorem aBY {X:Cx}{K:aa}{k:Nat}(hK:X.K=K)(hr:Room k X.A):OpR X (gj .NotIn) (aLz K true):=by
 subst hK
 exact OpR.or pF (aDJ (by have:=hr.un;omega))
section
variable {X:Cx}
end
end L2
namespace L2
open PySem PySem.Spec PyProof.Rows
section
variable {prog:Program}{w:World}{A:Around}{E:Value->Shared->Prop}{s:Shared}{d:Addr}{o:Obj}{es:Array DictEntry}{ep:Nat}
end
section
variable {prog:Program}{w:World}{K:Type}[DecidableEq K]{knd:HeapKind prog w K}{A:Around}{E:Value->Shared->Prop}{s:Shared}{d a:Addr}{xs:List (K × Addr × Value)}{k:K}
end
section
variable {X:Cx}{pins:List (Addr × Obj)}{σ:St}{H:Hp}{s:Shared}{A:Around}{E:Value->Shared->Prop}{a b:Addr}{kvs:List (List Key × V)}{k:List Key}
end
section
variable {X:Cx}{o e f:Expr}{td ty tx:TE}{apos cpos:Pos}
end
section
variable {prog:Program}{w:World}{A:Around}{E:Value->Shared->Prop}{s:Shared}{d:Addr}{o:Obj}{es:Array DictEntry}{ep:Nat}
end
section
variable {prog:Program}{w:World}{A:Around}{E:Value->Shared->Prop}{s:Shared}
end
section
variable {X:Cx}{o i value:Expr}{pos pos':Pos}{td ty tv:TE}
end
section
variable {X:Cx}
def CMulG (i j:Int):Prop:=i.natAbs<2 ^ 8000/\j.natAbs<2 ^ 8000
theorem aCU {k:Int}(h:k.natAbs<2 ^ 8000):m9 k<=8000:=by
 unfold m9
 split
 ·exact ay _
 ·rename_i c
  have hk:k.natAbs≠0:=fun e=>c (by simp [Int.natAbs_eq_zero.mp e])
  have:=(Nat.log2_lt hk).mpr h
  omega
theorem CMulG.ok {i j:Int}(h:CMulG i j):IntMulOk i j:=by
 unfold IntMulOk Builtin.Int.intTooBig
 have h1:=aCU h.1
 have h2:=aCU h.2
 have:¬ (((m9 i+m9 j:Nat):Int) > (bitsLine:Int)):=by
  have:(16000:Int)<=(bitsLine:Int):=by decide
  omega
 intro e
 rw[du] at e
 have:=of_decide_eq_true e.2
 omega
def fL:R2:=fun x y H Q=>match x,y with
 | .int i, .int j=>(CMul i j\/CMulG i j)/\Q (.int (i*j)) H
 | .ref a, .int k=>aLw (.ref a) (.int k) H Q
 | _,_=>False
theorem dB:OpR X (kd .Mult) fL:=by
 intro pins s σ H x y v u Q I rx ry h
 unfold fL at h
 split at h
 ·rcases h with ⟨h | h,q⟩
  ·exact aHX (X:=X) pins s σ H _ _ v u Q I rx ry ⟨_,_,rfl,rfl,h,q⟩
  ·exact (opI fun _ _ _ _ _ _ _ hc q=>mul_int q hc.ok:OpR X (kd .Mult) (rI CMulG fun i j => .int (i*j))) pins s σ H _ _ v u Q I rx ry ⟨_,_,rfl,rfl,h,q⟩
 ·exact aJm (X:=X) pins s σ H _ _ v u Q I rx ry h
 ·exact h.elim
def aJq (i j:Int):Prop:=0<j/\j.natAbs<2 ^ 8000
abbrev vL:R2:=rI aJq fun i j => .int (i / j)
theorem kS:OpR X (kd .FloorDiv) vL:=opI fun i j _ _ _ _ _ hc q=>by
 have h1:(0:Int)<j:=hc.1
 refine floordiv_int (by omega) (by rw[Int.fdiv_eq_ediv_of_nonneg i (by omega)];exact q) (.inl (PyProof.noPylong_of_log2 ?_))
 have:=(Nat.log2_lt (show j.natAbs≠0 by omega)).mpr hc.2
 omega
end
def aEu:Nat->List (List Nat)
 | 0=>[[]]
 | n+1=>aEu n++(aEu n).map (· ++ [n])
def aFh:List (List Nat):=aEu 8
theorem nL:∀ (n:Nat) (ks:List Nat),ks.Pairwise (· < ·)->(∀ k∈ks,k<n)->ks∈aEu n
 | 0,ks,_,h=>by
  cases ks with
  | nil=>exact cy.mpr rfl
  | cons k ks=>exact absurd (h k (dh ..)) (lx _)
 | n+1,ks,hp,h=>by
  rw[aEu,dv,fh]
  rcases List.eq_nil_or_concat ks with rfl | ⟨l,x,rfl⟩
  ·exact .inl (nL n [] .nil fun k z=>by cases z)
  ·rw[List.concat_eq_append] at hp h ⊢
   have hl:=(w6.mp hp)
   have hx:x<n+1:=h x (ef _ (cy.mpr rfl))
   by_cases c:x=n
   ·subst c
    exact .inr ⟨l,nL _ l hl.1 fun k hk=>hl.2.2 k hk _ (cy.mpr rfl),rfl⟩
   ·refine .inl (nL n _ hp fun k hk=>?_)
    rcases dv.mp hk with hk | hk
    ·have:=hl.2.2 k hk x (cy.mpr rfl);omega
    ·rw[cy.mp hk];omega
def smT (led:Bool) (ks:List Nat):SetTable:={ mask:=if ks.length<=4 then 7 else 31,place:=ks.toArray,dummies:=#[],finger:=0,led:=led,moves:=if ks.length<=4 then 0 else 1,plain:=true }
def aDi (ks:List Nat) (k:Nat):List Nat:=ks.take (cw ks.toArray k)++k :: ks.drop (cw ks.toArray k)
def smP (led:Bool) (ks:List Nat) (k:Nat):SetTable:={ smT led ks with place:=(aDi ks k).toArray }
def aLp (ks:List Nat):Bool:=decide (ks.Pairwise (· < ·)) && ks.all (fun k=>decide (k<8)) && decide (ks.length<=8)
def aJU (led:Bool) (ks:List Nat) (k:Nat):Bool:=ks.contains k || (decide ((smT led ks).freeSlot (Int.ofNat k)=some (k,false)) && decide ((smT led ks).put k=(smP led ks k,cw ks.toArray k)) && (smP led ks k).fits (ks.length+1)
 && aLp (aDi ks k) && decide ((smP led ks k).tooFull=(ks.length == 4)) && (if ks.length=4 then decide ((smP led ks k).relaid ((aDi ks k).map Int.ofNat).toArray (SetTable.grown 5)=some (smT led (aDi ks k),#[0,1,2,3,4])) else decide (smP led ks k=smT led (aDi ks k))))
theorem aHI:(aFh.all fun ks=>(av 8).all fun k=>aJU true ks k && aJU false ks k)=true:=by decide +kernel
theorem aLf {led:Bool}{ks:List Nat}(h:ks∈aFh){k:Nat}(hk:k<8)(hn:k∉ks):(smT led ks).freeSlot (Int.ofNat k)=some (k,false)/\(smT led ks).put k=(smP led ks k,cw ks.toArray k)/\(smP led ks k).fits (ks.length+1)=true/\aDi ks k∈aFh/\(smP led ks k).tooFull=(ks.length == 4) /\
  (ks.length=4->(smP led ks k).relaid ((aDi ks k).map Int.ofNat).toArray (SetTable.grown 5)=some (smT led (aDi ks k),#[0,1,2,3,4]))/\(ks.length≠4->smP led ks k=smT led (aDi ks k)):=by
 have a:=e9.mp (e9.mp aHI ks h) k (gr.mpr hk)
 have b:aJU led ks k=true:=by
  rw[du] at a
  cases led
  ·exact a.2
  ·exact a.1
 unfold aJU at b
 have c:ks.contains k=false:=by rw[<- fc];intro z;exact hn (List.contains_iff_mem.mp z)
 rw[c,qe] at b
 simp only [du,decide_eq_true_eq] at b
 obtain⟨⟨⟨⟨⟨b1,b2⟩,b3⟩,b4⟩,b5⟩,b6⟩:=b
 refine ⟨b1,b2,b3,?_,b5,fun z=>?_,fun z=>?_⟩
 ·unfold aLp at b4
  simp only [du,decide_eq_true_eq,e9] at b4
  exact nL 8 _ b4.1.1 b4.1.2
 ·rw[if_pos z] at b6;exact of_decide_eq_true b6
 ·rw[if_neg z] at b6;exact of_decide_eq_true b6
theorem uW {α:Type}:∀ {l:List α} {i:Nat} (h:i<l.length),([l[i]]++l.eraseIdx i).Perm l
 | x :: l,0,_ => .refl _
 | x :: l,i+1,h=>by
  have h':i<l.length:=by simpa using h
  have:=uW h'
  rw[List.eraseIdx_cons_succ,List.getElem_cons_succ]
  exact (List.Perm.swap _ _ _).trans (List.Perm.cons x this)
theorem aCQ {α:Type}(f:Nat->Nat):∀ (n k:Nat) (l:List α) (o:Array α),l.length=n->(yw f n k l o).toList.Perm (o.toList++l)
 | 0,_,[],o,_=>by rw[yw,i4]
 | n+1,k,l,o,h=>by
  have hl:f k % l.length<l.length:=Nat.mod_lt _ (by omega)
  rw[yw,ah hl]
  refine (aCQ f n (k+1) _ _ (by rw[List.length_eraseIdx,if_pos hl];omega)).trans ?_
  rw[Array.toList_push,ip]
  exact List.Perm.append_left _ (uW hl)
theorem aDh {α:Type}(f:Nat->Nat)(xs:Array α):(pickOrder f xs).toList.Perm xs.toList:=by
 have:=aCQ f xs.size 0 xs.toList #[] (dw ..)
 simpa [pickOrder] using this
def byT (w:World):Bool:=w.params.followText "set-order"
abbrev smO (w:World) (es:Array (Int × Value)) (ep:Nat) (ks:List Nat):Obj:={ cls := .type "set",dict:=none,data := .set es ep (smT (!byT w) ks) }
def SmE (es:Array (Int × Value)) (ks:List Nat):Prop:=ks∈aFh/\es.toList.map (·.1)=ks.map Int.ofNat/\∀ e∈es.toList,∃ tk,e.2 = .int e.1 tk
section
variable {prog:Program}{w:World}{A:Around}{E:Value->Shared->Prop}{s:Shared}
theorem SmE.put {es:Array (Int × Value)}{ks:List Nat}(h:SmE es ks){k:Nat}(hk:k<8)(hn:k∉ks)(t:Tok):SmE (SetTable.insertAt es (cw ks.toArray k) (Int.ofNat k, .int (Int.ofNat k) t)) (aDi ks k):=by
 refine ⟨(aLf (led:=true) h.1 hk hn).2.2.2.1,?_,?_⟩
 ·rw[uh,cz,d3,nq,uw,h.2.1]
  unfold aDi
  rw[cz,d3,nq,uw]
 ·intro e he
  rw[(SetTable.insertAt_perm es _ _).mem_iff,Array.toList_push,dv,cy] at he
  rcases he with he | rfl
  ·exact h.2.2 e he
  ·exact ⟨t,rfl⟩
theorem aHq {h:Heap}{a:Addr}{es es':Array (Int × Value)}{ep:Nat}{ks:List Nat}{t t':SetTable}{o:Obj}(ho:h.get? a=some o)(ed:o.data = .set es ep t):(h.update a (Obj.putSet es' t')).get? a=some { o with data := .set es' (ep+1) t' }:=by
 have:=ja (Obj.putSet es' t') ho (by rw[putSet_of es' t' ed];rfl)
 rw[putSet_of es' t' ed] at this
 exact this
end
section
variable {prog:Program}{w:World}{A:Around}{R:vv->Shared->Prop}{I:Addr}{fp wr:List Addr}{G:Array GenState->Array GenState->Prop}{n:Nat}{P:Nat->Value->Prop}{St:Nat->Shared->Prop}
end
section
variable {prog:Program}{w:World}{A:Around}{E:Value->Shared->Prop}{s:Shared}
theorem aHS (a:Value){Q₁:Value->Shared->Prop}(h:Q₁ (.ref s.heap.objs.size) { s with heap:=s.heap.push (smO w #[] 0 []) }) :
  uq (model prog w) A (.call (.builtin "set.__new__") ⟨[.type "set",a],[]⟩) (wants Q₁ E) s:=by
 refine vx ?_
 show wpAny _ A.in1 (do vi "set.__new__" ⟨[.type "set",a],[]⟩;again (.builtin "set.__new__" ⟨[.type "set",a],[]⟩)) _ _ s
 refine ae (ur (F.newCall_set_1 a) (ak ⟨yd F.plain_set_new _,jb F.entry_set_new ?_⟩))
 rw[ke F.plain_set_new _]
 unfold Builtin.«set.__new__» Builtin.Frozenset.newClass
 have hsub:=sub_set_self
 obtain⟨hp,g,d,tk,os⟩:=s
 dsimp only
 wp_walk
 refine lg (ak ?_)
 dsimp only
 simp only [newObj]
 refine ae (wpAny_alloc (ak ?_))
 exact ak h
end
theorem tD:Manifest.owners.lookup (String.ofList ['r','o','t','a','r','e','t','i','_','t','e','s'].reverse)=some Manifest.sig_set_iterator:=by kernel_rfl
theorem dG:Slot "set_iterator" "__next__" "set_iterator.__next__":=
 .of (owner:="set_iterator") (n:="__next__") (by rw[typeLookup_type,wa];kernel_rfl) (by decide +kernel) (by decide +kernel) (by decide +kernel)
  (by first | exact .inl (by decide +kernel) | exact .inr (by decide +kernel)) (by rw[xh];kernel_rfl)
theorem jG:entryFor table "set_iterator.__next__" = some Builtin.«set_iterator.__next__»:=entryFor_of_tree (by kernel_rfl)
theorem jX (a:Value):argsOk "set_iterator.__next__" ⟨[a],[]⟩:=by
 unfold argsOk;rw[signature?_of (id:="set_iterator.__next__") (n:=['_','_','t','x','e','n','_','_']) (o:=['r','o','t','a','r','e','t','i','_','t','e','s']) (by kernel_rfl) tD];kernel_rfl
theorem tY:entryFor table "set.__iter__" = some Builtin.«frozenset.__iter__»:=
 entryFor_alias (id':="frozenset.__iter__") (by kernel_rfl) rfl (by decide +kernel) (by kernel_rfl)
def SIt (it a:Addr) (slot i n ep:Nat) (h:Heap):Prop:=∃ o,h.get? it=some o/\o.cls = .type "set_iterator"/\o.data = .fields #[js slot,js i, .ref a,js n,js ep]
def gE (w:World) (ks:List Nat):Nat->Nat
 | 0=>0
 | i+1=>if byT w then 0 else ks.getD i 0+1
def gN (w:World) (a:Addr) (ep:Nat) (es:Array (Int × Value)):Array (Int × Value):=if byT w then pickOrder (w.params.setOrder a ep) es else es
theorem iU (w:World)(a:Addr)(ep:Nat)(es:Array (Int × Value)):(gN w a ep es).toList.Perm es.toList:=by
 unfold gN
 split
 ·exact aDh _ _
 ·exact .refl _
section
variable {prog:Program}{w:World}{A:Around}{E:Value->Shared->Prop}{s:Shared}{a:Addr}{es:Array (Int × Value)}{ep:Nat}{ks:List Nat}
theorem SIt.step {h:Heap}{it:Addr}{slot i n slot':Nat}(x:SIt it a slot i n ep h):SIt it a slot' (i+1) n ep ((h.update it (u5 (·.setIfInBounds 0 (js slot')))).update it (u5 (·.setIfInBounds 1 (js ((i:Int)+1))))):=by
 obtain⟨o,h1,h2,h3⟩:=x
 have d1:=lq h3 (·.setIfInBounds 0 (js slot'))
 have g1:=ja (u5 (·.setIfInBounds 0 (js slot'))) h1 (ma d1)
 have d2:=lq d1 (·.setIfInBounds 1 (js ((i:Int)+1)))
 exact ⟨_,ja _ g1 (ma d2),(uf ..).trans ((uf ..).trans h2),by rw[d2];simp [js]⟩
theorem SIt.typeIs {it:Addr}{slot i n:Nat}(x:SIt it a slot i n ep s.heap):s.TypeIs (.ref it) "set_iterator":=let ⟨o,h1,h2,_⟩:=x;⟨o,h1,h2⟩
end
end L2
namespace L2
open PySem PySem.Spec PySem.W PyProof.Rows
theorem jS:Slot "set_iterator" "__iter__" "set_iterator.__iter__":=
 .of (owner:="set_iterator") (n:="__iter__") (by rw[typeLookup_type,wa];kernel_rfl) (by decide +kernel) (by decide +kernel) (by decide +kernel)
  (by first | exact .inl (by decide +kernel) | exact .inr (by decide +kernel)) (by rw[xh];kernel_rfl)
theorem pT:entryFor table "set_iterator.__iter__" = some Builtin.«dict_keyiterator.__iter__»:=
 entryFor_alias (id':="dict_keyiterator.__iter__") (by kernel_rfl) rfl (by decide +kernel) (by kernel_rfl)
theorem qY (a:Value):argsOk "set_iterator.__iter__" ⟨[a],[]⟩:=by
 unfold argsOk;rw[signature?_of (id:="set_iterator.__iter__") (n:=['_','_','r','e','t','i','_','_']) (o:=['r','o','t','a','r','e','t','i','_','t','e','s']) (by kernel_rfl) tD];kernel_rfl
section
variable {prog:Program}{w:World}{A:Around}{E:Value->Shared->Prop}{s:Shared}{a:Addr}{es:Array (Int × Value)}{ep:Nat}{ks:List Nat}
theorem SIt.at {h h':Heap}{it:Addr}{sl i n:Nat}(x:SIt it a sl i n ep h)(e:∀ o,h.get? it=some o->h'.get? it=some o):SIt it a sl i n ep h':=let ⟨o,ho,r⟩:=x;⟨o,e _ ho,r⟩
theorem aFI {Q:Bool->Shared->Prop}(hT:s.TypeIs (.ref a) "set")(h:Q false s):wpAny (model prog w) A (qy (.ref a)) Q E s:=by
 unfold qy
 refine ae (nu hT PySem.F.slot_set_len.lookup ?_)
 generalize hid:("set.__len__" : String)=id0
 wp_delta
 rw[show splitId id0=some ("set","__len__") from by subst hid;decide +kernel]
 subst hid
 refine ae (jx (T:="set") (b:=true) hT (by rw[xh];kernel_rfl) ?_)
 refine wpAny_ite_split (fun hab=>absurd hab (by decide)) (fun _=>?_)
 refine wpAny_ite_split (fun _=>?_) (fun hab=>absurd (by decide +kernel) hab)
 refine ae (rn hT ?_)
 exact ak h
end
section
variable {X:Cx}
def tCl (t:TA):TA:=fun σ H Q=>∃ R:List V->Hp->Prop,t σ H R/\∀ vs H1,R vs H1->Q vs H1
theorem aLi {es:List Expr}{t:TA}(h:PA X es t):PA X es (tCl t):=fun pos pins s σ H Q I ⟨R,h1,h2⟩=>thn (h pos pins s σ H R I h1) fun us s1 ⟨vs,H1,I1,r,q⟩=>⟨vs,H1,I1,r,h2 vs H1 q⟩
end
end L2
namespace L2
open PySem PySem.Spec PyProof.Rows
theorem DP.at {X:Cx}{pins:List (Addr × Obj)}{σ:St}{H:Hp}{s:Shared}{a:Addr}{xs:PEs}{ep:Nat}(I:Inv X pins σ H s)(d:DP H a xs ep) :
  s.TypeIs (.ref a) "dict"/\(∀ b,Value.ref a = .ref b->∃ ob,s.heap.get? b=some ob/\ob.dict=none)/\(a == t9)=false:=by
 obtain⟨_,hd,ys,_,dd⟩:=d.of I.hok
 refine ⟨dd.typeIs,fun b q=>?_,hd⟩
 cases q
 obtain⟨ob,_,_,h1,h2,_⟩:=dd
 exact ⟨ob,h1,h2.2.1⟩
section
variable {X:Cx}{o e f:Expr}{apos cpos:Pos}{td ty tx:TE}
end
structure DefV (P:Program)(w:World)(K:aa)(mg:Str->Option Value)(base:Heap)(k:Nat)(f:Addr)(sp:Sp):Prop where
 ex:∃ (fd:FuncData) (ps:List Str),FnOk P w K mg base (tI P w) k f fd ps sp/\bj K (.ref f)=true/\Binds K fd ps []
theorem DefV.mono {P:Program}{w:World}{K:aa}{mg:Str->Option Value}{base:Heap}{j k:Nat}{f:Addr}{sp:Sp}(D:DefV P w K mg base j f sp)(h:j<=k):DefV P w K mg base k f sp:=by
 obtain⟨fd,ps,F,r⟩:=D.ex
 exact ⟨fd,ps,F.mono h,r⟩
theorem DefX.v {P:Program}{w:World}{K:aa}{mg:Str->Option Value}{base:Heap}{x:Str}{k:Nat}{ps:List Str}{sp:Sp}{f:Addr}(D:DefX P w K mg base x k ps sp)(h:mg x=some (.ref f)):DefV P w K mg base k f sp:=by
 obtain⟨f',fd,F,hm,hk,hb⟩:=D.ex
 rw[h] at hm
 cases hm
 exact ⟨fd,ps,F,hk,hb⟩
def aBF (fo:Addr->Sp->Prop) (E:XK) (tf:TE) (t:TA):TE:=fun σ H Q=>tf σ H fun x H1=>∃ f sp,x = .ref f/\fo f sp/\bG sp [] E t σ H1 Q
theorem wS {X:Cx}{k:Nat}{fo:Addr->Sp->Prop}{pos:Pos}{fe e:Expr}{es:List Expr}{tf:TE}{t:TA}{E:XK}(D:∀ f sp,fo f sp->DefV X.prog X.w X.K X.mg X.base k f sp)(hr:Room k X.A)(hx:pJ (tI X.prog X.w) X E)(hf:PE X fe tf)(ha:PA X (e :: es) t)
  (hev:eval (.Call fe (e :: es) [] pos) X.env=(do callWith pos (<- eval fe X.env) [] (rh pos (dz (e :: es) X.env)) (backToKw pos (zf [] X.env))):=by rfl)
  (he:dz (e :: es) X.env=(false,eval e X.env) :: dz es X.env:=by rfl) (hpl:(rh pos (dz es X.env)).any (·.1)=false:=by rfl) :
  PE X (.Call fe (e :: es) [] pos) (aBF fo E tf t):=by
 intro pins s σ H Q I h
 rw[hev]
 refine ae (thn (hf pins s σ H _ I h) fun v s1 ⟨x,H1,I1,rx,f,sp,ex,hfo,q⟩=>?_)
 subst ex
 obtain rfl:v=Value.ref f:=rx
 obtain⟨fd,ps,F,hk,hb⟩:=(D f sp hfo).ex
 refine PySem.W.callWith_K (h₀:=X.base) I.ok.mod.kin hk (thn (ha pos pins s1 σ H1 _ I1 q) fun us s2 ⟨vs,H2,I2,r,q2⟩=>⟨I2.kIn,?_⟩) he hpl
 exact aFO F hr hb .nil hx I2 r q2
section
variable {X:Cx}
def aDl (r r' r'':R2) (ta tb tc td:TE):TE:=fun σ H Q=>ta σ H fun x H1=>tb σ H1 fun y H2=>r x y H2 fun z H3=>∃ k,z = .bl k /\
 (if k=true then tc σ H3 fun w' H4=>r' y w' H4 fun z2 H5=>∃ k2,z2 = .bl k2/\(if k2=true then td σ H5 fun u' H6=>r'' w' u' H6 Q else Q (.bl false) H5) else Q (.bl false) H3)
theorem aCY {a b c d:Expr}{ta tb tc td:TE}{pos:Pos}{op op' op'':CmpOp}{r r' r'':R2}(ho:OpR X (gj op) r)(ho':OpR X (gj op') r')(ho'':OpR X (gj op'') r'')(ha:PE X a ta)(hb:PE X b tb)(hc:PE X c tc)(hd:PE X d td)
  (hm:lastMarks [op,op',op''] [b,c,d]=false:=by with_unfolding_all rfl):PE X (.Compare a [op,op',op''] [b,c,d] pos) (aDl r r' r'' ta tb tc td):=by
 intro pins s σ H Q I h
 refine Compare_chain (thn (ha pins s σ H _ I h) fun v s1 ⟨x,H1,I1,r1,q1⟩=>chain_link (thn (hb pins s1 σ H1 _ I1 q1) fun u s2 ⟨y,H2,I2,r2,q2⟩=>
  thn (ho pins s2 σ H2 x y v u _ I2 r1 r2 q2) fun d s3 ⟨z,H3,I3,r3,k,e,q3⟩=>?_)) hm
 subst e
 cases r3
 refine gp ?_
 cases k with
 | false=>exact ite_ff ⟨.bl false,H3,I3,rfl,q3⟩
 | true=>
  refine ite_tt (chain_link (thn (hc pins s3 σ H3 _ I3 q3) fun w' s4 ⟨z',H4,I4,r4,q4⟩=>thn (ho' pins s4 σ H4 y z' u w' _ I4 r2 r4 q4) fun d' s5 ⟨z2,H5,I5,r5,k2,e2,q5⟩=>?_))
  subst e2
  cases r5
  refine gp ?_
  cases k2 with
  | false=>exact ite_ff ⟨.bl false,H5,I5,rfl,q5⟩
  | true=>exact ite_tt (chain_last (thn (hd pins s5 σ H5 _ I5 q5) fun w2 s6 ⟨z3,H6,I6,r6,q6⟩=>ho'' pins s6 σ H6 z' z3 w' w2 Q I6 r4 r6 q6))
def aLa:V->List V->Hp->VK->Prop:=fun x vs H Q=>∃ (l:Addr) (xs:List V) (y:V),x = .ref l/\vs=[y]/\H l=some (.lst xs)/\nI y=true/\xs.all nI=true/\Q (.int ((xs.countP fun z=>eqV z y):Nat)) H
theorem aCS {y:V}:∀ {xs:List V} {us:List Value},Vals xs us->xs.all nI=true->us.countP (eqU y)=xs.countP fun z=>eqV z y
 | _,_, .nil,_=>rfl
 | x :: xs,u :: us, .cons r t,f=>by
  rw[nk,du] at f
  rw[pk,pk,aCS t f.2,aBC r f.1]
theorem aIh:MtM X "list.count" aLa:=by
 intro pins s σ H x vs v us Q I rx rv h
 obtain⟨l,xs,y,rfl,rfl,hH,fy,fs,q⟩:=h
 cases rx
 obtain⟨u,rfl,ru⟩:=rv.one
 obtain⟨zz,its,n,r,hl,e⟩:=I.lstM hH
 refine wk F.slot_list_count ⟨_,e,rfl⟩ F.entry_list_count (F.args_list_count_2 _ _)
  (SeqAt.list_countAt l its.toArray n none #[] u (eqU y)) ⟨e,fun w hw=>iS ru fy r fs w (by simpa using hw),?_⟩
 rw[show (its.toArray.toList.countP (eqU y))=xs.countP fun z=>eqV z y from aCS r fs]
 exact ⟨.int _,H,I.tok _,⟨_,rfl⟩,q⟩
end
open PySem.SeqAt PySem.MeetsSeq3
theorem aGt {r q:List Int}:eqL (r.map Dt.int) (q.map Dt.int)=decide (r=q):=by
 by_cases h:r=q
 ·subst h;rw[decide_eq_true rfl,fX]
 ·rw[decide_eq_false h]
  cases c:eqL (r.map Dt.int) (q.map Dt.int) with
  | false=>rfl
  | true=>exact absurd (qF c) h
section
variable {A:Around}{s:Shared}{l b:Addr}{us vs:List Value}{R S:List (List Int)}
end
open PySem.SeqAt PySem.MeetsSeq
open AutoSeq1 (wpAny_loadPart')
section
variable {X:Cx}
end
end L2
namespace L2
open PySem
section
variable {X:Cx}
end
end L2
namespace L2
open PySem PySem.Spec PyProof.Rows
section
variable {X:Cx}
end
section
variable {X:Cx}
end
end L2
namespace L2
open PySem PySem.W PyProof.Rows
open PySem.SeqAt
section
variable {prog:Program}{w:World}{A:Around}{E:Value->Shared->Prop}{s:Shared}
end
section
variable {X:Cx}
theorem aDu (b:Bool)(bs:List Bool):((av (bs.length+1)).any fun j=>(b :: bs).getD j false)=(b || (av bs.length).any fun j=>bs.getD j false):=by
 rw[oo,mi,wc]
 rfl
theorem aEm (hc:X.calm=true):CallR X (.builtin "any") (fun vs H Q=>∃ (a:Addr) (bs:List Bool),vs=[.ref a]/\Sq X.K H a (bs.map V.bl)/\Q (.bl (bs.any id)) H):=by
 intro pins s σ H xs us Q I r ⟨a,bs,e,hq,q⟩
 subst e
 obtain⟨u,rfl,ru⟩:=r.one
 obtain rfl:u=Value.ref a:=ru
 refine call_any_walk (wV (I.ok.hd hc) I hq fun its It fp wr S s2 rv hz W st hf hI=>?_)
 refine ⟨It,fp,wr,its.length,_,S,fun j=>bs.getD j false,rfl,W,st,fun i v s' Q' E' hv hQ'=>?_,fun h' tk hk=>?_⟩
 ·obtain⟨x,hx,rx⟩:=rv.getR hv
  rw[cf] at hx
  cases hb:bs[i]? with
  | none=>rw[hb] at hx;cases hx
  | some b=>
   rw[hb] at hx
   obtain rfl:V.bl b=x:=by simpa using hx
   obtain rfl:v=Value.bool b:=rx
   have:bs.getD i false=b:=by rw[ao,hb];rfl
   have hQ':Q' (bs.getD i false) s':=hQ'
   rw[this] at hQ'
   exact gp hQ'
 ·refine ⟨.bl (bs.any id),H,hI h' tk hk,?_,q⟩
  show Value.bool _=Value.bool _
  congr 1
  have hl:its.length=bs.length:=by rw[<- rv.length,af]
  rw[hl]
  clear q hq rv hl hz
  induction bs with
  | nil=>rfl
  | cons b bs ih=>rw[dm,aDu,mi];exact congrArg (fun z=>b || z) ih
def Tri (K:aa) (H:Hp) (b:Addr) (row:List Int):Prop:=∃ (q:Addr) (x y t z:Int),row=[x,y,t,z]/\SqT K H b [.int x, .int y, .ref q]/\SqT K H q ([t,z].map V.int)
def aEA (K:aa) (H:Hp) (xs:List V) (T:List (List Int)):Prop:=xs.length=T.length/\∀ (i:Nat) (row:List Int),T[i]?=some row->∃ b,xs[i]?=some (.ref b)/\Tri K H b row
def aKV (K:aa):List V->Hp->VK->Prop:=fun vs H Q=>∃ (a:Addr) (bs:List Bool),vs=[.ref a]/\Sq K H a (bs.map V.bl)/\Q (.bl (bs.any id)) H
theorem yE {K:aa}(hK:X.K=K)(hc:X.calm=true):CallR X (.builtin "any") (aKV K):=by subst hK;exact aEm hc
end
section
variable {X:Cx}{a b c d:Expr}{ta tb tc td:TE}{pos:Pos}
end
theorem aFL:d9 "any" = some (.builtin "any"):=by decide +kernel
end L2
namespace L2
open PySem PySem.Spec PyProof.Rows
section
variable {M:Model}{A:Around}{E:Value->Shared->Prop}{s:Shared}
end
section
variable {X:Cx}{pins:List (Addr × Obj)}{σ:St}{H:Hp}{s:Shared}{E:XK}{a:Addr}{cls a0:Value}{B h2:Heap}
end
section
variable {P:Program}{w:World}{K:aa}{mg:Str->Option Value}{base:Heap}{N:List Str}{qual:Str}{scope:Scope}{f:Addr}{cd:Value}{A:Around}{outer:List Env}{s₀:Shared}{H₀:Hp}{E:XK}
end
section
variable {X:Cx}
end
section
variable {X:Cx}{elt target iter:Expr}{ifs:List Expr}{rest:List Comprehension}{scope:Scope}{pos:Pos}{N':List Str}{ix:List (Option Nat)}{wi:TI}{g:TG}{ts:List TT}{tb:Addr->TS}{E:XK}
end
section
variable {prog:Program}{w:World}{A:Around}{E:Value->Shared->Prop}{s:Shared}
end
section
variable {prog:Program}{w:World}{A:Around}{s:Shared}{R:vv->Shared->Prop}
end
section
variable {prog:Program}{w:World}{A:Around}{E:Value->Shared->Prop}{s:Shared}
end
section
variable {X:Cx}{pins:List (Addr × Obj)}{σ:St}{H H2:Hp}{s:Shared}{h':Heap}
end
section
variable {prog:Program}{w:World}{A:Around}{R:vv->Shared->Prop}{It:Addr}{fp wr:List Addr}{n:Nat}{P:Nat->Value->Prop}{St:Nat->Heap->Prop}
end
section
variable {prog:Program}{w:World}{A:Around}{E:Value->Shared->Prop}{s:Shared}
end
theorem aDN {pl:List Nat}(ris:pl.Pairwise (· < ·)){i m x y:Nat}(h:i<m)(hx:pl[i]?=some x)(hy:pl[m]?=some y):x<y:=by
 obtain⟨h1,rfl⟩:=ai.mp hx
 obtain⟨h2,rfl⟩:=ai.mp hy
 exact tw.mp ris i m h1 h2 h
theorem aAj {pl:List Nat}{j:Nat}(ris:pl.Pairwise (· < ·)):∀ (f lo hi:Nat),hi<=pl.length->lo<=hi->hi - lo<=f->(∀ i x,i<lo->pl[i]?=some x->x<j)->(∀ i x,hi<=i->pl[i]?=some x->j<=x) ->
  mn pl.toArray j f lo hi<=pl.length/\(∀ i x,i<mn pl.toArray j f lo hi->pl[i]?=some x->x<j)/\∀ i x,mn pl.toArray j f lo hi<=i->pl[i]?=some x->j<=x
 | 0,lo,hi,h1,h2,h3,h4,h5=>by
  have e:lo=hi:=by omega
  subst e
  rw[mn]
  exact ⟨h1,h4,h5⟩
 | f+1,lo,hi,h1,h2,h3,h4,h5=>by
  rw[mn]
  by_cases c:lo<hi
  ·rw[if_pos c]
   have hm:(lo+hi) / 2<pl.length:=by omega
   have em:pl[(lo+hi) / 2]?=some pl[(lo+hi) / 2]:=ah hm
   have eg:pl.toArray.getD ((lo+hi) / 2) j=pl[(lo+hi) / 2]:=by
    rw[ei,wd,em];rfl
   dsimp only
   rw[eg]
   by_cases d:pl[(lo+hi) / 2]<j
   ·rw[if_pos d]
    refine aAj ris f _ hi h1 (by omega) (by omega) (fun i x hi' hx=>?_) h5
    by_cases q:i=(lo+hi) / 2
    ·subst q;rw[em] at hx;cases hx;exact d
    ·have:=aDN ris (show i<(lo+hi) / 2 by omega) hx em;omega
   ·rw[if_neg d]
    refine aAj ris f lo _ (by omega) (by omega) (by omega) h4 fun i x hi' hx=>?_
    by_cases q:i=(lo+hi) / 2
    ·subst q;rw[em] at hx;cases hx;omega
    ·have:=aDN ris (show (lo+hi) / 2<i by omega) em hx;omega
  ·rw[if_neg c]
   have e:lo=hi:=by omega
   subst e
   exact ⟨h1,h4,h5⟩
theorem kM {pl:List Nat}(ris:pl.Pairwise (· < ·))(j:Nat):cw pl.toArray j<=pl.length/\(∀ i x,i<cw pl.toArray j->pl[i]?=some x->x<j)/\∀ i x,cw pl.toArray j<=i->pl[i]?=some x->j<=x:=by
 unfold cw
 refine aAj ris _ 0 _ (by simp) (ay _) (by simp) (fun i x h=>absurd h (lx _)) fun i x h hx=>?_
 have:i<pl.length:=(ai.mp hx).1
 have:pl.toArray.size=pl.length:=by simp
 omega
theorem aCb {pl:List Nat}(ris:pl.Pairwise (· < ·)){i j:Nat}(h:pl[i]?=some j):cw pl.toArray (j+1)=i+1:=by
 obtain⟨b1,b2,b3⟩:=kM ris (j+1)
 have hi:=(ai.mp h).1
 rcases Nat.lt_trichotomy (cw pl.toArray (j+1)) (i+1) with c | c | c
 ·have:=b3 i j (by omega) h;omega
 ·exact c
 ·have hl:i+1<pl.length:=by omega
  have e:=ah hl
  have:=b2 _ _ c e
  have:=aDN ris (jv i) h e
  omega
theorem aCn {pl:List Nat}(ris:pl.Pairwise (· < ·)):cw pl.toArray 0=0:=by
 obtain⟨b1,b2,b3⟩:=kM ris 0
 refine d8 fun c=>?_
 have hl:0<pl.length:=by omega
 have:=b2 0 _ (by omega) (ah hl)
 omega
section
variable {t:SetTable}{pl:List Nat}
end
def rnL (mask i:Nat):List Nat:=(av (SetTable.runEnd mask i+1 - i)).map (i + ·)
def aLq (mask:Nat):Nat->Nat->Nat->List Nat
 | 0,_,_=>[]
 | f+1,i,p=>rnL mask i++aLq mask f (SetTable.leap mask i p).1 (SetTable.leap mask i p).2
def hT (k:List Int):Int:=wo (fi (k.map hashInt))
def K28:List (List Int):=(av 8).flatMap fun (i:Nat)=>(av i).map fun (j:Nat)=>[(j:Int),(i:Int)]
def nR (mask:Nat):Nat:=if mask=7 then 14 else if mask=31 then 10 else 6
def SL (mask:Nat) (h:Int):List Nat:=aLq mask (nR mask) (n5 h % (mask+1)) (n5 h)
def M3 (mask:Nat):Prop:=mask=7\/mask=31\/mask=127
def Rch (mask:Nat) (pl:List Nat) (h:Int) (j:Nat):Prop:=∃ L1 L2,SL mask h=L1++j :: L2/\∀ x∈L1,x∈pl
theorem Rch.mono {mask:Nat}{pl pl':List Nat}{h:Int}{j:Nat}(r:Rch mask pl h j)(s:∀ x∈pl,x∈pl'):Rch mask pl' h j:=
 let ⟨L1,L2,e,q⟩:=r;⟨L1,L2,e,fun x hx=>s x (q x hx)⟩
abbrev Us:=List (List Int × Addr)
structure Ptb (mask:Nat)(pl:List Nat)(us:Us):Prop where
 m:M3 mask
 len:pl.length=us.length
 ris:pl.Pairwise (· < ·)
 nd:(us.map (·.1)).Nodup
 mem:∀ u∈us,u.1∈K28
 rch:∀ (i:Nat) (u:List Int × Addr) (j:Nat),us[i]?=some u->pl[i]?=some j->Rch mask pl (hT u.1) j
section
variable {t:SetTable}{pl:List Nat}{us:Us}{k:List Int}
end
def aCB {α:Type} (l:List α) (p:Nat) (x:α):List α:=l.take p++x :: l.drop p
theorem yP {α:Type}(l:List α)(p:Nat)(x:α):(aCB l p x).Perm (x :: l):=by
 unfold aCB
 refine List.perm_middle.trans ?_
 rw[List.take_append_drop]
theorem vD {α:Type}{l:List α}{p i:Nat}{x y:α}(hp:p<=l.length)(h:(aCB l p x)[i]?=some y):(i<p/\l[i]?=some y)\/(i=p/\y=x)\/(p<i/\l[i - 1]?=some y):=by
 unfold aCB at h
 have lt:(l.take p).length=p:=by rw[df];omega
 rcases Nat.lt_trichotomy i p with c | c | c
 ·rw[dj (by omega),kh c] at h
  exact .inl ⟨c,h⟩
 ·rw[da (by omega),lt,c,Nat.sub_self] at h
  exact .inr (.inl ⟨c,(bf h).symm⟩)
 ·rw[da (by omega),lt] at h
  obtain⟨m,hm⟩:∃ m,i - p=m+1:=⟨i - p - 1,by omega⟩
  rw[hm,List.getElem?_cons_succ,j6] at h
  exact .inr (.inr ⟨c,by rw[show i - 1=p+m by omega];exact h⟩)
theorem aFp {pl:List Nat}(ris:pl.Pairwise (· < ·)){j:Nat}(hj:j∉pl):(aCB pl (cw pl.toArray j) j).Pairwise (· < ·):=by
 obtain⟨b1,b2,b3⟩:=kM ris j
 have f1:∀ x∈pl.take (cw pl.toArray j),x<j:=fun x hx=>by
  obtain⟨i,hi⟩:=jc.mp hx
  have hl:=(ai.mp hi).1
  rw[df] at hl
  rw[kh (by omega)] at hi
  exact b2 i x (by omega) hi
 have f2:∀ x∈pl.drop (cw pl.toArray j),j<x:=fun x hx=>by
  obtain⟨i,hi⟩:=jc.mp hx
  rw[j6] at hi
  have:=b3 _ x (jh _ _) hi
  have:x≠j:=fun e=>hj (e ▸ bt hi)
  omega
 unfold aCB
 refine w6.mpr ⟨ris.take,rq.mpr ⟨f2,ris.drop⟩,fun x hx y hy=>?_⟩
 have:=f1 x hx
 rcases dk.mp hy with rfl | hy
 ·exact this
 ·have:=f2 y hy;omega
section
variable {mask:Nat}{pl:List Nat}{us:Us}{k:List Int}
theorem Ptb.put (P:Ptb mask pl us){k:List Int}{a:Addr}(hK:k∈K28)(hk:k∉us.map (·.1)){j:Nat}(hj:j∉pl)(hr:Rch mask pl (hT k) j):Ptb mask (aCB pl (cw pl.toArray j) j) (aCB us (cw pl.toArray j) (k,a)):=by
 obtain⟨b1,_,_⟩:=kM P.ris j
 have pp:=yP pl (cw pl.toArray j) j
 have pu:=yP us (cw pl.toArray j) (k,a)
 have sub:∀ x∈pl,x∈aCB pl (cw pl.toArray j) j:=fun x hx=>pp.mem_iff.mpr (bu _ hx)
 refine ⟨P.m,by rw[pp.length_eq,pu.length_eq,dm,dm,P.len],aFp P.ris hj,?_,fun u hu=>?_,fun i u x hu hx=>?_⟩
 ·refine (pu.map (·.1)).nodup_iff.mpr ?_
  exact i9.mpr ⟨hk,P.nd⟩
 ·rcases dk.mp (pu.mem_iff.mp hu) with rfl | hu
  ·exact hK
  ·exact P.mem u hu
 ·rcases vD (by rw[<- P.len];exact b1) hu with ⟨c,h1⟩ | ⟨c,h1⟩ | ⟨c,h1⟩
  ·rcases vD b1 hx with ⟨d,h2⟩ | ⟨d,h2⟩ | ⟨d,h2⟩
   ·exact (P.rch i u x h1 h2).mono sub
   ·omega
   ·omega
  ·rcases vD b1 hx with ⟨d,h2⟩ | ⟨d,h2⟩ | ⟨d,h2⟩
   ·omega
   ·rw[h1,h2];exact hr.mono sub
   ·omega
  ·rcases vD b1 hx with ⟨d,h2⟩ | ⟨d,h2⟩ | ⟨d,h2⟩
   ·omega
   ·omega
   ·exact (P.rch (i - 1) u x h1 h2).mono sub
theorem aIG (pl:List Nat)(p j:Nat):SetTable.insertAt pl.toArray p j=(aCB pl p j).toArray:=by
 apply Array.toList_inj.mp
 rw[uh]
 unfold aCB
 simp
end
section
variable {mask:Nat}{pl:List Nat}{us:Us}
end
def spT (led:Bool) (mask:Nat) (pl:List Nat) (mv:Nat):SetTable:={ mask:=mask,place:=pl.toArray,dummies:=#[],finger:=0,led:=led,moves:=mv,plain:=true }
section
variable {prog:Program}{w:World}{A:Around}{E:Value->Shared->Prop}{s:Shared}
end
section
variable {prog:Program}{w:World}{A:Around}{E:Value->Shared->Prop}{s:Shared}{a b:Addr}{us:Us}{k:List Int}{ep mask mv:Nat}{pl:List Nat}
theorem aIa (led:Bool)(j:Nat):(spT led mask pl mv).put j=(spT led mask (aCB pl (cw pl.toArray j) j) mv,cw pl.toArray j):=by
 unfold SetTable.put spT
 have e2:SetTable.has #[] j=false:=by
  unfold SetTable.has
  rw[<- fc]
  intro z
  have:=yb z
  simp at this
 dsimp only
 rw[e2,aIG]
 rfl
end
section
variable {prog:Program}{w:World}{A:Around}{R:vv->Shared->Prop}{I:Addr}{fp wr:List Addr}{G:Array GenState->Array GenState->Prop}{n:Nat}{P:Nat->Value->Prop}{St:Nat->Shared->Prop}
end
section
variable {prog:Program}{w:World}{A:Around}{E:Value->Shared->Prop}{s:Shared}
end
end L2
namespace L2
open PySem PySem.W PySem.Spec PyProof.Rows
section
variable {prog:Program}{w:World}{A:Around}{E:Value->Shared->Prop}{s:Shared}{a:Addr}{us:Us}{ep mask mv:Nat}{pl:List Nat}
theorem aEi {α β:Type}{f:α->β}{R' R:List β}(h:R'.Perm R):∀ qs:List α,R=qs.map f->∃ qs':List α,qs'.Perm qs/\R'=qs'.map f:=by
 induction h with
 | nil=>exact fun qs e=>⟨[],by cases qs with | nil=>exact .nil | cons _ _=>simp at e,rfl⟩
 | cons x _ ih=>
  intro qs e
  cases qs with
  | nil=>simp at e
  | cons q qs=>
   rw[d3,we] at e
   obtain⟨qs',p,e'⟩:=ih qs e.2
   exact ⟨q :: qs',p.cons q,by rw[d3,e.1,e']⟩
 | swap x y _=>
  intro qs e
  cases qs with
  | nil=>simp at e
  | cons q qs=>
   cases qs with
   | nil=>simp at e
   | cons r qs=>
    simp only [d3,we] at e
    exact ⟨r :: q :: qs, .swap q r qs,by simp only [d3];rw[e.1,e.2.1,e.2.2]⟩
 | trans _ _ ih1 ih2=>
  intro qs e
  obtain⟨q2,p2,e2⟩:=ih2 qs e
  obtain⟨q1,p1,e1⟩:=ih1 q2 e2
  exact ⟨q1,p1.trans p2,e1⟩
end
end L2
namespace L2
open PySem PySem.Spec PySem.W PyProof.Rows
section
variable {prog:Program}{w:World}{A:Around}{E:Value->Shared->Prop}{s:Shared}{a:Addr}{us:Us}{ep mask mv:Nat}{pl:List Nat}
end
section
variable {X:Cx}
end
end L2
namespace L2
open PySem PySem.Spec PyProof.Rows
section
variable {X:Cx}
end
end L2
namespace L2
open PySem PySem.W PyProof.Rows
structure PBs (a₀:Array Keyed)(κ:wq)(st:ui):Prop where
 perm:(arrOf st).Perm a₀
 kind:kindOf st=κ
 failed:u6 st=none
section
variable {prog:Program}{w:World}{A:Around}{E:Value->Shared->Prop}{s:Shared}{a₀:Array Keyed}{κ:wq}{st:ui}
structure Kpt (a₀:Array Keyed)(κ:wq)(st st':ui):Prop where
 b:PBs a₀ κ st'
 p:zq st'=zq st
theorem Kpt.trans {st1 st2:ui}(h:Kpt a₀ κ st st1)(g:Kpt a₀ κ st1 st2):Kpt a₀ κ st st2:=⟨g.b,g.p.trans h.p⟩
end
section
variable {prog:Program}{w:World}{A:Around}{E:Value->Shared->Prop}{s:Shared}{a₀:Array Keyed}{κ:wq}{st:ui}
end
section
variable {a b out:Array Keyed}{i j k:Nat}
end
structure SG (st st':ui):Prop where
 k:kindOf st'=kindOf st
 a:arrOf st'=arrOf st
 p:zq st'=zq st
 f:u6 st'=u6 st
theorem SG.trans {s1 s2 s3:ui}(h:SG s1 s2)(g:SG s2 s3):SG s1 s3:=⟨g.k.trans h.k,g.a.trans h.a,g.p.trans h.p,g.f.trans h.f⟩
section
variable {prog:Program}{w:World}{A:Around}{E:Value->Shared->Prop}{s:Shared}{a₀:Array Keyed}{κ:wq}{st:ui}
end
section
variable {a b out:Array Keyed}{i j k:Nat}
end
section
variable {prog:Program}{w:World}{A:Around}{E:Value->Shared->Prop}{s:Shared}{a₀:Array Keyed}{κ:wq}{st:ui}
end
section
variable {prog:Program}{w:World}{A:Around}{E:Value->Shared->Prop}{s:Shared}{a₀:Array Keyed}{κ:wq}{st:ui}
end
section
variable {prog:Program}{w:World}{A:Around}{E:Value->Shared->Prop}{s:Shared}
end
section
variable {prog:Program}{w:World}{A:Around}{E:Value->Shared->Prop}{s:Shared}{d:Addr}{o:Obj}{es:Array DictEntry}{ep:Nat}
end
section
variable {X:Cx}
end
end L2
namespace L2
open PySem PySem.Spec PyProof.Rows
def aLJ (c:Addr) (q:Str):HO := .ext fun h=>∃ o vs t,h.get? c=some o/\o.data = .fields vs/\vs[1]?=some (.str q t)
def TabS (H:Hp) (P:Addr) (pos:Pos) (q:Str):Prop:=H P=some (.tbl #[])\/∃ c,H P=some (.tbl #[js pos.line,js pos.col, .ref c])/\H c=some (aLJ c q)
theorem TabS.same {H H':Hp}{P:Addr}{pos:Pos}{q:Str}(h:TabS H P pos q)(s:Same H H'):TabS H' P pos q:=by
 rcases h with h | ⟨c,h1,h2⟩
 ·exact .inl (s _ _ h)
 ·exact .inr ⟨c,s _ _ h1,s _ _ h2⟩
section
variable {X:Cx}{pins:List (Addr × Obj)}{σ:St}{H:Hp}{s:Shared}{P cc:Addr}
end
section
variable {X:Cx}{pins:List (Addr × Obj)}{σ:St}{l f i0 S0:Addr}{us:List Value}{R:vv->Shared->Prop}{fobj:Obj}{H:Hp}
theorem FpOk.at {H':Hp}{b:Addr}(F:FpOk X pins H b)(h:H' b=none):FpOk X pins H' b:=⟨h,F.2⟩
end
section
variable {X:Cx}
end
section
variable {prog:Program}{w:World}{A:Around}{E:Value->Shared->Prop}{env:Env}
variable {nm q:Str}{C N:Addr}{bs bm bmB:List Value}{hdct:Bool}{sn:List Str}{sub:List Value}{ab:Bool}{col:Option Bool}{dd:Option Addr}{k0 k1 k2 k3 k5:Option Value}{B newId initId:String}
end
section
variable {X:Cx}{pins:List (Addr × Obj)}{σ:St}{H:Hp}{s:Shared}{a:Addr}{o:HO}{h':Heap}{t':Nat}
end
section
variable {X:Cx}{x:Str}{np pos:Pos}{C:Addr}{a:Expr}{es:List Expr}{ta:TA}{K:aa}
end
section
variable {prog:Program}{w:World}{A:Around}{E:Value->Shared->Prop}{h:Heap}{g:Array GenState}{d:Drawn}{t:Nat}{os:OsState}
variable {nm q:Str}{C N:Addr}{bs bm bmB:List Value}{hdct:Bool}{sn:List Str}{sub:List Value}{ab:Bool}{col:Option Bool}{dd:Option Addr}{k0 k1 k2 k3 k5:Option Value}{B newId initId:String}
end
end L2
namespace L2
open PySem PySem.Spec PySem.W PyProof.Rows
section
variable {prog:Program}{w:World}{A:Around}{E:Value->Shared->Prop}{s:Shared}
theorem PlainL.isList {h:Heap}{a:Addr}{its:Array Value}(x:PlainL h a its):h.IsList a its:=let ⟨o,n,e,c,_,d⟩:=x;⟨o,e,c,n,by rw[d]⟩
end
section
variable {X:Cx}
end
end L2
namespace L2
open PySem PySem.W PyProof.Rows
open PySem.SeqAt
section
variable {prog:Program}{w:World}{A:Around}{E:Value->Shared->Prop}{s:Shared}
theorem tV {a:Addr}{vs:List Value}{n:Nat}{R:List (List Int)}{P:Fin->Shared->Prop}(ho:s.heap.get? a=some (jo "list" vs.toArray n))(hlen:vs.length=R.length){PP:Heap->Prop}(hP:PP s.heap)(kp:∀ h h':Heap,PP h->(∀ x us,IsTup h x us->IsTup h' x us)->PP h')(fst:∀ h,PP h->∃ fs,KatTups h vs fs/\fs.length=R.length/\∀ v∈fs,∃ x us,v = .ref x/\IsTup h x us)(ask:∀ (s:Shared) (i j:Nat) (C:Bool->Shared->Prop),PP s.heap->i<R.length->j<R.length->C (rlt (aAQ R) i j) s->kas_ask prog w A (zw false) vs i j C s)(h64:vs.length<64)
  (h:∀ p,Put R p->P (.done (.ret .none)) { s with heap:=wt s.heap a vs (iq (p.toList.map fun i=>vs.getD i Value.none)) }):wpAny (model prog w) A (Builtin.«list.sort» ⟨[.ref a],[]⟩) P E s:=by
 have ha:=bo ho
 have hz:vs.length<=ba:=by rw[uo];omega
 obtain⟨e1,ho1⟩:∃ e1,(s.heap.update a (je fun _=>#[])).get? a=some (jo "list" #[] e1):=⟨_,v3 ho fun _=>#[]⟩
 rw[list_sort_plain]
 refine ae (vz ho rfl (ae (qg ho rfl ?g1 (by rw[aq];exact hz) (ay _))))
 case g1=>
 refine ae (xp ho1 rfl (ae (tu ?g2 (by show vs.length<=_;exact hz))))
 case g2=>
 refine ae (qf (ft ?g3) (ay _))
 case g3=>
 obtain⟨h3,eh⟩:∃ h3,h3=((s.heap.update a (je fun _=>(#[]:Array Value))).push (jo "tuple" vs.toArray 0)).push (jo "list" #[] 0):=⟨_,rfl⟩
 show wpAny (model prog w) A _ P E { s with heap:=((s.heap.update a (je fun _=>#[])).push (jo "tuple" vs.toArray 0)).push (jo "list" #[] 0) }
 rw[<- eh]
 have ho3:h3.get? a=some (jo "list" #[] e1):=by
  rw[eh]
  exact aj _ (aj _ ho1)
 have hv3:PP h3:=kp _ _ hP fun x us ⟨o,b1,b2,b3⟩=>by
  have hx:x≠a:=fun e=>by
   subst e
   rw[ho] at b1
   cases b1
   exact absurd (Value.type.inj (show Value.type "list" = Value.type "tuple" from b2)) (by decide)
  refine ⟨o,?_,b2,b3⟩
  rw[eh]
  exact aj _ (aj _ (by rw[xq _ _ _ _ hx];exact b1))
 dsimp only
 have fin:∀ (p:Array Nat) (st':ui),Put R p->p.size=vs.length->arrOf st'=p.map (kas_item (vs.toArray.zip vs.toArray))->u6 st'=none->wpAny (model prog w) A (do
   let touched:=(<- seqEpoch a) != e1
   u7 (.ref a) fun _=>(arrOf st').map (·.2)
   if let some e:=u6 st' then rule "list.sort.comparison-raised";throw e
   if touched then rule "list.sort.modified";raiseError "ValueError" "list modified during sort"
   ret .none) P E { s with heap:=h3 }:=fun p st' hp hsz har hf=>by
  rw[kat_snds rfl har,hf]
  refine ae (xp ho3 rfl (ae (qg ho3 rfl ?g4 (ay _) ?g5)))
  case g5=>
   show (iq _).size<=_
   rw[aq,af,dw];omega
  case g4=>
   simp only [bne_self_eq_false,e7,if_false]
   have:=h p hp
   unfold wt at this
   rw[<- eh] at this
   exact ak this
 by_cases c:vs.toArray.size<2
 ·rw[if_pos c,if_pos c]
  refine ae (ak ?g6)
  case g6=>
  rw[StateT.run_pure]
  refine ae (ak ?g7)
  case g7=>
  have e2:(vs.toArray.zip vs.toArray).size=vs.length:=by simp
  refine fin (iq (av vs.length)) (SortSt.mk' general' (vs.toArray.zip vs.toArray) #[] 7 none) ⟨by rw[hlen],fun i j hij hj=>?_⟩ (by simp) ?_ rfl
  ·have hl:R.length<2:=by rw[<- hlen];simpa using c
   rw[show i=j by omega]
   exact mQ _
  ·have:=kas_range (vs.toArray.zip vs.toArray)
   rw[e2] at this
   exact this.symm
 ·rw[if_neg c,if_neg c]
  have h2:2<=vs.length:=by simpa using c
  obtain⟨fs,k1,k2,k3⟩:=fst _ hv3
  refine ae (kat_kind (s:={ s with heap:=h3 }) (T := .type "tuple") k1 (by have:=hlen;omega) (fun v hv'=>?g8) (by decide) ?g9)
  case g8=>
   obtain⟨x,us,rfl,o,b1,b2,_⟩:=k3 v hv'
   exact kitAt_ty _ _ ⟨o,b1,b2⟩
  case g9=>
  obtain⟨q1,q2,q3⟩:=aFE (r:=aAQ R) (n:=vs.length) (by omega)
  refine ae (il (kat_run (ks:=vs) (vs:=vs) (s:={ s with heap:=h3 }) (κ:=zw false) (Q:=fun st' s'=>s'={ s with heap:=h3 }/\arrOf st'=(bQ (aAQ R) (nz vs.length)).map (kas_item (vs.toArray.zip vs.toArray))/\u6 st'=none) (G:=fun p' s'=>p'=bQ (aAQ R) (nz vs.length)/\s'={ s with heap:=h3 }) rfl h2 h64 (fun p' st' s' a1 a2 a3 a4=>⟨a4.2,by rw[<- a4.1];exact a2,a3⟩)
   (aGh (N:=vs.length) (r:=aAQ R) (fun i j C hi hj hC=>ask { s with heap:=h3 } i j C hv3 (by rw[<- hlen];exact hi) (by rw[<- hlen];exact hj) hC) _ (aEE (by omega)) ⟨rfl,rfl⟩)) ?_ fun _ _ e=>e)
  rintro ⟨⟨⟩,st'⟩ s' ⟨rfl,har,hf⟩
  refine fin _ st' ⟨by rw[<- hlen];exact q1,fun i j hij hj=>?_⟩ q2 har hf
  have hle:=q3 i j hij (by rw[hlen];exact hj)
  have bd:∀ k,k<vs.length->(bQ (aAQ R) (nz vs.length)).getD k 0<R.length:=fun k hk=>by
   rw[ei,d7 (by omega)]
   have:=q1.mem_iff.mp (Array.getElem_mem (show k<(bQ (aAQ R) (nz vs.length)).size by omega))
   rw[<- hlen]
   simpa using this
  have hlt:=aAA (R:=R) (bd j (by rw[hlen];exact hj)) (bd i (by rw[hlen];omega))
  cases z:lexL (R.getD ((bQ (aAQ R) (nz vs.length)).getD j 0) []) (R.getD ((bQ (aAQ R) (nz vs.length)).getD i 0) []) with
  | false=>rfl
  | true=>
   have:=hlt.mpr z
   unfold Kr at hle
   omega
theorem aAu {l:Addr}{ob:Obj}{n:Nat}{T:String}{us:List Value}{R:List (List Int)}{Q:Value->Shared->Prop}(e0:s.heap.get? l=some ob)(ec:ob.cls = .type T)(eT:T="list"\/T="tuple")(ed:ob.data = .seq us.toArray n)(hlen:us.length=R.length){PP:Heap->Prop}(hP:PP s.heap)(kp:∀ h h':Heap,PP h->(∀ x us,IsTup h x us->IsTup h' x us)->PP h')(fst:∀ h,PP h->∃ fs,KatTups h us fs/\fs.length=R.length/\∀ v∈fs,∃ x us,v = .ref x/\IsTup h x us)(ask:∀ (s:Shared) (i j:Nat) (C:Bool->Shared->Prop),PP s.heap->i<R.length->j<R.length->C (rlt (aAQ R) i j) s->kas_ask prog w A.in1.in1 (zw false) us i j C s)(h64:us.length<64)
  (q:∀ p,Put R p->Q (.ref (s.heap.objs.size+1)) { s with heap:=sortedAll s.heap us (iq (p.toList.map fun i=>us.getD i Value.none)) }):wpAny (model prog w) A (call (.builtin "sorted") [.ref l]) Q E s:=by
 refine t6 kind_sorted plain_sorted entry_sorted (args_sorted1 _) ?g1
 case g1=>
 unfold Builtin.«sorted»
 refine ae (m:=checkCount "sorted" 1 1 _) (ak (ae (aBX e0 ec eT ed (ae (qf ?g2)) (dg (gy h64) (by decide)))))
 case g2=>
 obtain⟨h1,eh1⟩:∃ h1,h1=(s.heap.push (jo "list" #[] 0)).update s.heap.objs.size (je (· ++ us.toArray)):=⟨_,rfl⟩
 have z1:h1.objs.size=s.heap.objs.size+1:=by rw[eh1,Heap.size_update,size_push']
 have old:∀ x o,s.heap.get? x=some o->(h1.push (jo "list" us.toArray 0)).get? x=some o:=fun x o e=>by
  have hx:=bo e
  refine aj _ ?_
  rw[eh1,xq _ _ _ _ (di hx)]
  exact aj _ e
 have e2:(h1.push (jo "list" us.toArray 0)).get? (s.heap.objs.size+1)=some (jo "list" us.toArray 0):=by rw[<- z1];exact bh _ rfl
 have hv2:PP (h1.push (jo "list" us.toArray 0)):=kp _ _ hP fun x vs ⟨o,b1,b2,b3⟩=>⟨o,old x o b1,b2,b3⟩
 show wpAny _ _ _ _ _ { s with heap:=((s.heap.push (jo "list" #[] 0)).update s.heap.objs.size (je (· ++ us.toArray))).push (jo "list" us.toArray 0) }
 rw[<- eh1,z1]
 refine ae (ft (e8 slot_list_sort ⟨_,e2,rfl⟩ entry_list_sort (tV (s:={ s with heap:=h1.push (jo "list" us.toArray 0) }) e2 hlen hv2 kp fst ask h64 fun p hp=>⟨_,rfl,ak ⟨_,rfl,?g3⟩⟩) (args_list_sort _)))
 case g3=>
  have:=q p hp
  unfold sortedAll at this
  rw[<- eh1] at this
  exact this
def PtAt (h:Heap) (vs:List Value) (R:List (List Int)):Prop:=vs.length=R.length/\∀ (i:Nat) (row:List Int),R[i]?=some row->∃ (x q f:Addr) (us ws:List Value) (r:List Int),vs[i]?=some (.ref x)/\IsTup h x [Value.ref q, .ref f].toArray/\IsTup h q us.toArray/\IntsAre us row/\IsTup h f ws.toArray/\IntsAre ws r
theorem PtAt.keep {h h':Heap}{vs:List Value}{R:List (List Int)}(hv:PtAt h vs R)(k:∀ x us,IsTup h x us->IsTup h' x us):PtAt h' vs R:=
 ⟨hv.1,fun i row hr=>by obtain⟨x,q,f,us,ws,r,e1,e2,e3,e4,e5,e6⟩:=hv.2 i row hr;exact ⟨x,q,f,us,ws,r,e1,k _ _ e2,k _ _ e3,e4,k _ _ e5,e6⟩⟩
theorem zF {h:Heap}:∀ {vs:List Value} {R:List (List Int)},PtAt h vs R->∃ fs,KatTups h vs fs/\fs.length=R.length/\∀ v∈fs,∃ x us,v = .ref x/\IsTup h x us
 | [],[],_=>⟨[],trivial,rfl,fun _ z=>by cases z⟩
 | [],_ :: _,hv=>by cases hv.1
 | _ :: _,[],hv=>by cases hv.1
 | v :: vs,q :: R,hv=>by
  obtain⟨x,q',f,us,ws,r,e1,⟨o,a1,a2,n,a3⟩,e3,_⟩:=hv.2 0 q rfl
  obtain⟨fs,k,l,f'⟩:=zF (vs:=vs) (R:=R) ⟨by simpa using hv.1,fun i row hr=>hv.2 (i+1) row hr⟩
  obtain rfl:v = .ref x:=by simpa using e1
  exact ⟨.ref q' :: fs,⟨⟨x,o,_,n,rfl,a1,a2,a3,rfl⟩,k⟩,by simp [l],fun v hv'=>by
   rcases dk.mp hv' with e | hv'
   ·exact ⟨q',_,e,e3⟩
   ·exact f' v hv'⟩
theorem aHZ (hu:A.units+10<cLine){vs:List Value}{R:List (List Int)}(nd:R.Nodup)(hv:PtAt s.heap vs R){i j:Nat}{C:Bool->Shared->Prop}(hi:i<R.length)(hj:j<R.length)(h:C (rlt (aAQ R) i j) s):kas_ask prog w A (zw false) vs i j C s:=by
 have at':∀ k,k<R.length->∃ (x q f:Addr) (us ws:List Value) (r:List Int),vs.getD k Value.none = .ref x/\IsTup s.heap x [Value.ref q, .ref f].toArray/\IsTup s.heap q us.toArray/\IntsAre us (R.getD k [])/\IsTup s.heap f ws.toArray/\IntsAre ws r:=fun k hk=>by
  obtain⟨x,q,f,us,ws,r,e1,e2,e3,e4,e5,e6⟩:=hv.2 k R[k] (ah hk)
  refine ⟨x,q,f,us,ws,r,by rw[ao,e1];rfl,e2,e3,?_,e5,e6⟩
  rw[ao,ah hk]
  exact e4
 have e:rlt (aAQ R) i j=lexL (R.getD i []) (R.getD j []):=by
  unfold rlt
  by_cases c:lexL (R.getD i []) (R.getD j [])=true
  ·rw[c];exact decide_eq_true ((aAA hi hj).mpr c)
  ·rw[fc _ |>.mp c];exact decide_eq_false fun z=>c ((aAA hi hj).mp z)
 rw[e] at h
 show wpAny (model prog w) A (keyLt' (zw false) (vs.getD i Value.none) (vs.getD j Value.none)) C (fun _ _=>False) s
 by_cases hij:i=j
 ·subst hij
  obtain⟨x,q,f,us,ws,r,e1,⟨ox,a1,_,n1,d1⟩,o1,w1,o2,w2⟩:=at' i hi
  rw[e1]
  refine kat_lt a1 d1 a1 d1 ?_
  refine kat_cons (aAS (by omega) o1 o1 w1 w1 prog w _ _ ?_)
  rw[show eqL ((R.getD i []).map Dt.int) ((R.getD i []).map Dt.int)=true from fX _]
  refine kat_yes (kat_cons (aAS (by omega) o2 o2 w2 w2 prog w _ _ ?_))
  rw[show eqL (r.map Dt.int) (r.map Dt.int)=true from fX _]
  rw[mQ] at h
  exact kat_yes (kat_nil h)
 ·obtain⟨x,q,f,us,ws,r,e1,⟨ox,a1,_,n1,d1⟩,o1,w1,_,_⟩:=at' i hi
  obtain⟨x',q',f',us',ws',r',e2,⟨oy,a2,_,n2,d2⟩,o2,w2,_,_⟩:=at' j hj
  rw[e1,e2]
  refine kat_lt a1 d1 a2 d2 ?_
  refine kat_cons (aAS (by omega) o1 o2 w1 w2 prog w _ _ ?_)
  have ne:eqL ((R.getD i []).map Dt.int) ((R.getD j []).map Dt.int)=false:=by
   rw[<- fc]
   intro z
   have z:=qF z
   rw[ao,ao,ah hi,ah hj] at z
   exact hij ((m8 nd).mp z)
  rw[ne]
  exact kat_no (kat_one _ _ (aGu (by omega) o1 o2 w1 w2 h))
end
section
variable {X:Cx}
def Pt (K:aa) (H:Hp) (b:Addr) (e:List Int × Int × Int):Prop:=∃ (q f:Addr),SqT K H b [.ref q, .ref f]/\SqT K H q (e.1.map V.int)/\SqT K H f [.int e.2.1, .int e.2.2]
def rK (K:aa) (H:Hp) (xs:List V) (W:List (List Int × Int × Int)):Prop:=xs.length=W.length/\∀ (i:Nat) (e:List Int × Int × Int),W[i]?=some e->∃ b,xs[i]?=some (.ref b)/\Pt K H b e
def aAF (K:aa):List V->Hp->VK->Prop:=fun vs H Q=>∃ (a:Addr) (xs:List V) (W:List (List Int × Int × Int)),vs=[.ref a]/\Sq K H a xs/\rK K H xs W/\(W.map (·.1)).Nodup/\W.length<64 /\
 ∀ (ys:List V) (W':List (List Int × Int × Int)),W'.Perm W->(W'.map (·.1)).Pairwise (fun a b=>lexL b a=false)->ys.Perm xs->rK K H ys W'->∀ l,H l=none->Q (.ref l) (upd H l (.lst ys))
theorem aAz {X:Cx}{k:Nat}(hr:Room k X.A):CallR X (.builtin "sorted") (aAF X.K):=by
 intro pins s σ H vs us Q I r ⟨a,xs,W,e,hq,hR,nd,h64,q⟩
 subst e
 obtain⟨u,rfl,ru⟩:=xX r
 obtain rfl:u=Value.ref a:=ru
 have go:∀ (its:List Value) (ob:Obj) (n:Nat) (T:String),Vals xs its->s.heap.get? a=some ob->ob.cls = .type T->(T="list"\/T="tuple")->ob.data = .seq its.toArray n->wpAny (model X.prog X.w) X.A (call (.builtin "sorted") [.ref a]) (EP X pins σ Q) X.xe s:=by
  intro its ob n T rv e0 ec eT ed
  have hl:=rv.length
  have hv:PtAt s.heap its (W.map (·.1)):=⟨by rw[<- hl,af];exact hR.1,fun i row hr=>by
   rw[cf] at hr
   cases ew:W[i]? with
   | none=>rw[ew] at hr;cases hr
   | some e=>
   rw[ew] at hr
   obtain rfl:e.1=row:=bf hr
   obtain⟨b,e1,q,f,e2,e3,e4⟩:=hR.2 i e ew
   obtain⟨u,eu,rU⟩:=rv.get e1
   obtain rfl:u=Value.ref b:=rU
   obtain⟨vs,rvs,pl,_⟩:=I.tuple e2
   obtain⟨ws,rws,pq,_⟩:=I.tuple e3
   obtain⟨zs,rzs,pz,_⟩:=I.tuple e4
   cases rvs with
   | cons r1 rvs=>
    cases rvs with
    | cons r2 rvs=>
     cases rvs
     obtain rfl:=(show _=Value.ref q from r1)
     obtain rfl:=(show _=Value.ref f from r2)
     exact ⟨b,q,f,ws,zs,[e.2.1,e.2.2],eu,pl,pq,kU rws,pz,kU (by simpa using rzs)⟩⟩
  refine aAu e0 ec eT ed hv.1 hv (fun h h' hv k=>hv.keep k) (fun h hv=>zF hv) (fun s i j C hv hi hj hC=>aHZ (by have:=hr.un;show X.A.units+1+1+10<cLine;omega) nd hv hi hj hC) (by rw[<- hl,hR.1];exact h64) fun p hp=>?_
  obtain⟨f1,f2⟩:=aFi hp
  have pl:p.toList.Perm (av W.length):=by simpa using mx.mp hp.1
  have hb:∀ i∈p.toList,i<W.length:=fun i hi=>gr.mp (pl.mem_iff.mp hi)
  obtain⟨c,he⟩:=sortedAll_at s.heap its (iq (p.toList.map fun i=>its.getD i Value.none))
  have ex:(av W.length).map (fun i=>xs.getD i V.non)=xs:=by
   apply pw
   ·simp [hR.1]
   ·intro i h1 h2
    rw[jy,n4,ao,ah h2];rfl
  have py:(p.toList.map fun i=>xs.getD i V.non).Perm xs:=by have:=pl.map fun i=>xs.getD i V.non;rw[ex] at this;exact this
  have exW:(av W.length).map (fun i=>W.getD i ([],0,0))=W:=by
   apply pw
   ·simp
   ·intro i h1 h2
    rw[jy,n4,ao,ah h2];rfl
  have pW:(p.toList.map fun i=>W.getD i ([],0,0)).Perm W:=by have:=pl.map fun i=>W.getD i ([],0,0);rw[exW] at this;exact this
  have eW:(p.toList.map fun i=>W.getD i ([],0,0)).map (·.1)=p.toList.map fun i=>(W.map (·.1)).getD i []:=by
   rw[gz]
   refine xr fun i hi=>?_
   show (W.getD i ([],0,0)).1=_
   rw[ao,ao,cf]
   cases W[i]? <;> rfl
  refine ⟨.ref (s.heap.objs.size+1),_,I.laid (t':=s.toks) (o := .lst (p.toList.map fun i=>xs.getD i V.non)) (fun b ob q=>sortedAll_old q) (uu _) ?_,rfl,q _ (p.toList.map fun i=>W.getD i ([],0,0)) pW (by rw[eW];exact f2) py ?_ _ (I.hok.fresh (uu _))⟩
  ·refine ⟨?_,p.toList.map fun i=>its.getD i Value.none,c,?_,by simpa using he⟩
   ·rw[af,pl.length_eq,dy]
    exact dg (gy h64) (by decide)
   ·have all:∀ l:List Nat,(∀ i∈l,i<W.length)->Vals (l.map fun i=>xs.getD i V.non) (l.map fun i=>its.getD i Value.none):=by
     intro l
     induction l with
     | nil=>intro _;exact .nil
     | cons i l ih=>
      intro h
      have hi:i<xs.length:=by rw[hR.1];exact h i (dh ..)
      obtain⟨u,eu,rU⟩:=rv.get (ah hi)
      refine .cons ?_ (ih fun j hj=>h j (bu _ hj))
      show RelV (xs.getD i V.non) (its.getD i Value.none)
      rw[ao,ao,eu,ah hi]
      exact rU
    exact all _ hb
  ·refine ⟨by rw[af,af],fun i row hr=>?_⟩
   rw[cf] at hr
   cases ep:p.toList[i]? with
   | none=>rw[ep] at hr;cases hr
   | some k=>
    rw[ep] at hr
    obtain rfl:W.getD k ([],0,0)=row:=bf hr
    have hk:=hb k (bt ep)
    obtain⟨b,e1,e2⟩:=hR.2 k W[k] (ah hk)
    refine ⟨b,?_,?_⟩
    ·rw[cf,ep]
     show some (xs.getD k V.non)=_
     rw[ao,e1];rfl
    ·rw[ao,ah hk];exact e2
 rcases hq with hq | hq
 ·obtain⟨its,rv,pl,hz⟩:=I.list hq
  obtain⟨o,ho,hc,n,hd⟩:=pl.isList
  exact go its o n "list" rv ho hc (.inl rfl) hd
 ·obtain⟨its,rv,pl,hz⟩:=I.tuple hq
  obtain⟨o,ho,hc,n,hd⟩:=pl
  exact go its o n "tuple" rv ho hc (.inr rfl) hd
theorem xS {K:aa}{k:Nat}(hK:X.K=K)(hr:Room k X.A):CallR X (.builtin "sorted") (aAF K):=by subst hK;exact aAz hr
end
end L2
namespace L2
open PySem PySem.Spec PySem.W PyProof.Rows
open PySem.SeqAt
abbrev pwT (led:Bool) (pl:List Nat):SetTable:={ spT led 7 pl 0 with plain:=false }
abbrev pwO (w:World) (es:Array (Int × Value)) (ep:Nat) (pl:List Nat):Obj:={ cls := .type "set",dict:=none,data := .set es ep (pwT (!byT w) pl) }
structure Pw (es:Array (Int × Value))(pl:List Nat):Prop where
 ris:pl.Pairwise (· < ·)
 sz:es.size=pl.length
 le:pl.length<=1
theorem rO {es:Array (Int × Value)}{pl:List Nat}(P:Pw es pl)(led:Bool):(pwT led pl).fits es.size=true:=by
 have l:=P.le
 have z:=P.sz
 unfold pwT spT SetTable.fits SetTable.fill
 simp only [aq,ni,Nat.add_zero,du,beq_iff_eq,decide_eq_true_eq]
 exact ⟨z.symm,by omega⟩
section
variable {prog:Program}{w:World}{A:Around}{E:Value->Shared->Prop}{s:Shared}{a:Addr}{es:Array (Int × Value)}{ep:Nat}{pl:List Nat}
theorem aEF {Q:Bool->Shared->Prop}(P:Pw es pl)(ho:s.heap.get? a=some (pwO w es ep pl))(hf:(pwT (!byT w) pl).fits es.size=true)(h:Q false s):wpAny (model prog w) A (setDrawn a) Q E s:=by
 unfold setDrawn setsByText
 refine ae (mq ho rfl hf (ae (ae (lg (ak ?_)))))
 refine ak ?_
 have:(!(w.params.followText "set-order") && (!(pwT (!byT w) pl).plain && decide (es.size > 1)))=false:=by
  rw[decide_eq_false (show ¬ es.size > 1 by have:=P.sz;have:=P.le;omega)];simp
 exact this ▸ h
theorem aHy {Q:Value->Shared->Prop}(P:Pw es pl)(ho:s.heap.get? a=some (pwO w es ep pl))(hf:(pwT (!byT w) pl).fits es.size=true)
  (h:Q (.ref s.heap.objs.size) { s with heap:=s.heap.push { cls := .type "set_iterator",data := .fields #[js 0,js 0, .ref a,js es.size,js ep] } }):wpAny (model prog w) A (y9 (.ref a)) Q E s:=by
 have hT:s.TypeIs (.ref a) "set":=⟨_,ho,rfl⟩
 refine wpAny_pyIter_slot hT F.slot_set_iter (e8 F.slot_set_iter hT tY ?g (F.args_set_iter_1 _))
 case g=>
 unfold Builtin.«frozenset.__iter__» Builtin.Frozenset.slot0 Builtin.Frozenset.sizeOf
 refine ae (ae (ak (ak ?_)))
 refine ae (ae (qz ho rfl hf (ak ?_)))
 refine ae (aEF P ho hf ?_)
 rw[if_neg (by exact br)]
 refine ae (ak (ae (wpAny_setEpoch_of ho rfl hf ?_)))
 unfold newFields
 refine ae (gq (ak ⟨_,rfl,"set_iterator",_,⟨_,bh _ rfl,rfl⟩,dG.lookup,?_⟩))
 exact h
theorem aCJ {slot i:Nat}{Q:Option (Value × Nat)->Shared->Prop}(ho:s.heap.get? a=some (pwO w es ep pl))(P:Pw es pl)(hs:slot=gE w pl i)(hi:i<=es.size)
  (h:Q (((gN w a ep es)[i]?).map fun e=>(e.2,gE w pl (i+1))) s):wpAny (model prog w) A (setNext a slot i ep) Q E s:=by
 have hf:(pwT (!byT w) pl).fits es.size=true:=rO P (!byT w)
 have sz:=P.sz
 unfold setNext setsByText
 refine ae (mq ho rfl hf (ae (ae (lg (ak ?_)))))
 dsimp only
 show wpAny _ _ (if byT w=true then _ else _) _ _ _
 cases hb:byT w with
 | true=>
  rw[if_pos rfl,if_neg (by simp)]
  unfold setWalk setsByText
  refine ae (ae (mq ho rfl hf (ae (ae (lg (ak ?_))))))
  dsimp only
  show wpAny _ _ (if byT w=true then _ else _) _ _ _
  rw[if_pos hb]
  refine ae (lg (ak (ak ?_)))
  unfold gN at h
  rw[if_pos hb] at h
  have e1:gE w pl (i+1)=slot:=by
   rw[hs]
   cases i with
   | zero=>simp [gE,hb]
   | succ i=>simp [gE,hb]
  rw[e1] at h
  exact h
 | false=>
  rw[if_neg (by simp)]
  rw[if_neg]
  rotate_left
  ·show ¬ ((!false && decide (es.size > 1))=true)
   rw[decide_eq_false (show ¬ es.size > 1 by have:=P.sz;have:=P.le;omega)]
   simp
  refine ae (ur (a:=()) rfl ?_)
  refine ak ?_
  unfold gN at h
  rw[hb,if_neg (by simp)] at h
  have z0:=aCn P.ris
  have eb:cw pl.toArray slot=i:=by
   rw[hs]
   cases i with
   | zero=>exact z0
   | succ i=>
    show cw pl.toArray (if byT w then 0 else pl.getD i 0+1)=i+1
    rw[hb,if_neg (by simp)]
    have hi':i<pl.length:=by rw[<- sz];omega
    rw[ao,ah hi']
    exact aCb P.ris (ah hi')
  show Q (match es[cw pl.toArray slot]?,pl.toArray[cw pl.toArray slot]? with
     | some (_,x),some j=>some (x,j+1)
     | _,_=>none) s
  rw[eb]
  by_cases c:i<es.size
  ·have c':i<pl.length:=by rw[<- sz];exact c
   rw[d7 c] at h ⊢
   rw[wd,ah c']
   have e2:gE w pl (i+1)=pl[i]+1:=by
    show (if byT w then 0 else pl.getD i 0+1)=_
    rw[hb,if_neg (by simp),ao,ah c']
    rfl
   rw[e2] at h
   exact h
  ·rw[jr (by omega)] at h ⊢
   exact h
theorem aFA {it:Addr}{i:Nat}{Q:Option Value->Shared->Prop}(hit:SIt it a (gE w pl i) i es.size ep s.heap)(ho:s.heap.get? a=some (pwO w es ep pl))(P:Pw es pl){e:Int × Value}(hx:(gN w a ep es)[i]?=some e)(hi:i<es.size)
  (q:∀ h',SIt it a (gE w pl (i+1)) (i+1) es.size ep h'->ij it s.heap h'->Q (some e.2) { s with heap:=h' }):wpAny (model prog w) A (vf (.ref it)) Q E s:=by
 have hf:(pwT (!byT w) pl).fits es.size=true:=rO P (!byT w)
 have hT:=hit.typeIs
 obtain⟨oi,hi1,hi2,hi3⟩:=id hit
 unfold vf
 refine ae (ky (fg (name:=j4 "__next__") hT dG (e8 dG hT jG ?g (jX _))))
 case g=>
 unfold Builtin.«set_iterator.__next__» slotArgs
 refine ae (ak (ae (wpAny_fieldsOf hi1 hi3 ?_)))
 refine ae (qz ho rfl hf ?_)
 rw[if_neg (by simp)]
 show wpAny _ _ (setNext a (gE w pl i:Int).toNat (i:Int).toNat (ep:Int).toNat >>= _) _ _ s
 rw[bz,bz,bz]
 refine ae (aCJ ho P rfl (gy hi) ?_)
 rw[hx]
 show wpAny _ _ (setField (.ref it) 0 (js (gE w pl (i+1))) >>= _) _ _ s
 refine ae (o8 hi1 hi3 (by simp) ?_)
 have d1:=lq hi3 (·.setIfInBounds 0 (js (gE w pl (i+1))))
 have g1:=ja (u5 (·.setIfInBounds 0 (js (gE w pl (i+1))))) hi1 (ma d1)
 refine ae (o8 g1 d1 (by simp) ?_)
 exact ak ⟨_,rfl,ak (q _ (SIt.step hit) ((jq ..).trans (jq ..)))⟩
theorem aGE {it : Addr} {Q : Option Value -> Shared -> Prop} (hh : A.handled = none) (hit : SIt it a (gE w pl es.size) es.size es.size ep s.heap) (ho : s.heap.get? a = some (pwO w es ep pl)) (P : Pw es pl)
    (q : ∀ h', xm it s.heap h' -> Q none { s with heap := h' }) : wpAny (model prog w) A (vf (.ref it)) Q E s := by
  have hf : (pwT (!byT w) pl).fits es.size = true := rO P (!byT w)
  have hT := hit.typeIs
  obtain⟨oi, hi1, hi2, hi3⟩ := id hit
  unfold vf
  refine ae (ky (fg (name := j4 "__next__") hT dG (e8 dG hT jG ?g (jX _))))
  case g =>
  unfold Builtin.«set_iterator.__next__» slotArgs
  refine ae (ak (ae (wpAny_fieldsOf hi1 hi3 ?_)))
  refine ae (qz ho rfl hf ?_)
  rw[if_neg (by simp)]
  show wpAny _ _ (setNext a (gE w pl es.size : Int).toNat (es.size : Int).toNat (ep : Int).toNat >>= _) _ _ s
  rw[bz, bz, bz]
  refine ae (aCJ ho P rfl (bg _) ?_)
  have hw : (gN w a ep es).size = es.size := by rw[<- dw, (iU w a ep es).length_eq, dw]
  rw[jr (by omega)]
  show wpAny _ _ (setField (.ref it) 2 .none >>= _) _ _ s
  refine ae (o8 hi1 hi3 (by simp) ?_)
  show wpAny _ _ (newExc (.type "StopIteration") [] >>= _) _ _ _
  simp only [newExc, newTuple]
  refine ae (ae (gq (ae (m := tq _ _) (ur (a := Value.none) (by first | rfl | (simp only [tq]; rfl)) (gq ?g (by size_fits)))) (by size_fits)))
  case g =>
  simp only [raiseNew]
  refine ae (wpAny_handled ?g)
  case g =>
  rw[show A.in1.handled = none from hh]
  refine ae (ak (wpAny_throw ?z))
  case z => refine ae (jx (T := "StopIteration") (b := true) ⟨_, bh _ rfl, rfl⟩ xg ?z)
            case z => exact ak (q _ (((jq ..).extBut.push _).push _))
theorem aFH (hh:A.handled=none)(I a:Addr)(hne:a≠I)(ep:Nat)(P:Pw es pl) :
  Walks prog w A I [I,a] [I] es.size (fun i v=>∃ e,(gN w a ep es)[i]?=some e/\v=e.2) (fun i h=>SIt I a (gE w pl i) i es.size ep h/\h.get? a=some (pwO w es ep pl)) where
 sub:=fun b hb=>by simp at hb;simp [hb]
 frame:=fun _ _ _ st hk=>⟨st.1.at fun o e=>hk I (by simp) o e,hk a (by simp) _ st.2⟩
 item:=fun i s Q E hi st hQ=>by
  have hw:(gN w a ep es).size=es.size:=by rw[<- dw,(iU w a ep es).length_eq,dw]
  refine aFA st.1 st.2 P (d7 (by omega)) hi fun h' hit' hs'=>?_
  exact hQ _ h' s.toks ⟨_,d7 (by omega),rfl⟩ ⟨hit',by rw[hs'.2 a hne];exact st.2⟩ fun b o hb e=>hs'.extBut b o (fun h=>hb (by simp [h])) e
 done:=fun s Q E st hQ=>aGE hh st.1 st.2 P fun h' he'=>hQ h' s.toks fun b o hb e=>he' b o (fun h=>hb (by simp [h])) e
 self:=fun i s Q E st hQ=>by
  have hT:s.TypeIs (.ref I) "set_iterator":=SIt.typeIs st.1
  refine wpAny_pyIter_slot hT jS (e8 jS hT pT ?_ (qY _))
  show wpAny _ _ (ret (.ref I)) _ _ s
  exact ak ⟨_,rfl,"set_iterator",_,hT,dG.lookup,hQ⟩
theorem aHP (P:Pw es pl):KdlSrc prog w "set" a a es.size (fun i v=>∃ e,(gN w a ep es)[i]?=some e/\v=e.2) (fun h=>h.get? a=some (pwO w es ep pl)) where
 type:=fun _ hm=>⟨_,hm,rfl⟩
 there:=fun _ hm=>⟨bo hm,bo hm⟩
 keep:=fun _ _ hm hk=>hk a (.inl rfl) _ hm
 notList:=by decide
 notTuple:=by decide
 hint:=fun _ _ s _ hm hq=>aFI ⟨_,hm,rfl⟩ hq
 iter:=fun A s hh hm=>⟨{ cls := .type "set_iterator",data := .fields #[js 0,js 0, .ref a,js es.size,js ep] },_,(fun _ _ hq=>aHy P hm (rO P (!byT w)) hq),aFH hh _ a (di (bo hm)) ep P,⟨⟨_,bh _ rfl,rfl,rfl⟩,aj _ hm⟩⟩
theorem aCu {Q:List Value->Shared->Prop}(hh:A.handled=none)(ho:s.heap.get? a=some (pwO w es ep pl))(P:Pw es pl)
  (hQ:∀ (h':Heap) (tk:Nat),(∀ b o,s.heap.get? b=some o->h'.get? b=some o)->s.heap.objs.size<h'.objs.size->Q ((gN w a ep es).toList.map (·.2)) { s with heap:=h',toks:=tk }):wpAny (model prog w) A (collect (.ref a)) Q E s:=by
 have ha:a<s.heap.objs.size:=bo ho
 unfold collect
 let R1:vv->Shared->Prop:=fun r s'=>∃ h' tk acc c,r = .ok (.ret (.ref s.heap.objs.size))/\s'={ s with heap:=h',toks:=tk }/\h'.get? s.heap.objs.size=some { cls := .type "list",dict:=none,data := .seq acc c,slots:=#[] }/\(∀ b o,s.heap.get? b=some o->h'.get? b=some o)/\ItemsOf (fun i v=>∃ e,(gN w a ep es)[i]?=some e/\v=e.2) acc es.size
 refine ae (xf (j3 (R:=R1) ?_ ?_))
 ·refine jb F.entry_proto_collect ?_
  rw[ke F.plain_proto_collect _]
  show wpAny _ A.in1 (newList [] >>= fun l=>again (.builtin "list.__iadd__" ⟨[l, .ref a],[]⟩)) _ _ s
  refine ae (gq ?_)
  refine ak ⟨yd F.plain_list_iadd _,jb F.entry_list_iadd ?_⟩
  rw[ke F.plain_list_iadd _]
  have ho1:(s.heap.push { cls := .type "list",data := .seq ([]:List Value).toArray }).get? a=some (pwO w es ep pl):=aj _ ho
  have hS₁:(s.heap.push { cls := .type "list",data := .seq ([]:List Value).toArray }).get? s.heap.objs.size=some { cls := .type "list",data := .seq ([]:List Value).toArray }:=bh _ rfl
  show wpAny _ A.in1 (ly (.ref s.heap.objs.size) (.ref a) (.ref s.heap.objs.size)) _ _ { s with heap:=s.heap.push { cls := .type "list",data := .seq ([]:List Value).toArray } }
  exact kdl_extend (R:=R1) (s:={ s with heap:=s.heap.push { cls := .type "list",data := .seq ([]:List Value).toArray } }) (aHP (prog:=prog) (w:=w) (a:=a) (ep:=ep) P) hh ho1 s.heap.objs.size (jk ha) (jk ha) (.ref s.heap.objs.size) 0 hS₁ (fun h' tk acc c hk hS' hA=>⟨h',tk,acc,c,rfl,rfl,hS',fun b o e=>hk b o (di (bo e)) (aj _ e),hA⟩) (by rw[P.sz,uo];have:=P.le;omega)
 ·rintro r s' ⟨h',tk,acc,c,rfl,rfl,hS',hk,hA⟩
  have hp:=iU w a ep es
  have ea:acc.toList=(gN w a ep es).toList.map (·.2):=by
   apply uj
   intro i
   rw[cf,pf,pf]
   by_cases c:i<acc.size
   ·obtain⟨e,h1,h2⟩:=hA.2 i acc[i] (d7 c)
    rw[d7 c,h1,h2];rfl
   ·have hw:(gN w a ep es).size=es.size:=by rw[<- dw,hp.length_eq,dw]
    rw[jr (by omega),jr (by have:=hA.1;omega)];rfl
  show wpAny _ A (load s.heap.objs.size >>= _) _ _ _
  refine ae (wpAny_load hS' ?_)
  show wpAny _ _ (pure acc.toList) _ _ _
  rw[ea]
  exact ak (hQ h' tk hk (bo hS'))
end
def txE (prog:Program) (w:World) (t:Str) (tk:Tok):Array (Int × Value):=#[((strKind prog w).hash t, .str t tk)]
def txP (prog:Program) (w:World) (t:Str):List Nat:=[n5 ((strKind prog w).hash t) % 8]
def aCD (prog:Program) (w:World) (a:Addr) (t:Str) (h:Heap):Prop:=∃ ep tk,h.get? a=some (pwO w (txE prog w t tk) ep (txP prog w t))
theorem aIJ {prog:Program}{w:World}{t:Str}{tk:Tok}:Pw (txE prog w t tk) (txP prog w t):=⟨List.pairwise_singleton _ _,rfl,by show 1<=1;decide⟩
theorem aLh (led:Bool):smT led []=spT led 7 [] 0:=rfl
theorem aGM (led:Bool)(h:Int):(spT led 7 [] 0).freeSlot h=some (n5 h % 8,false):=rfl
theorem aJh (led:Bool)(h:Int)(x:Value):layNew (spT led 7 [] 0) #[] h x=(#[(h,x)],spT led 7 [n5 h % 8] 0,false,false):=by
 unfold layNew
 rw[aGM]
 dsimp only
 rw[aIa]
 dsimp only
 rfl
section
variable {prog:Program}{w:World}{A:Around}{E:Value->Shared->Prop}{s:Shared}
theorem aFo {t:Str}{tk:Tok}:ElemsOf (strKind prog w) (txE prog w t tk).toList:=by
 intro e he
 have:e=((strKind prog w).hash t, .str t tk):=by simpa [txE] using he
 subst this
 exact ⟨⟨t,ym _ _ _ _,rfl⟩,rfl⟩
theorem aIR {a:Addr}{t:Str}{tk:Tok}{Q:Bool->Shared->Prop}(hS:s.heap.get? a=some (smO w #[] 0 [])\/aCD prog w a t s.heap)
  (h:∀ h' b,ij a s.heap h'->aCD prog w a t h'->Q b { s with heap:=h' }):wpAny (model prog w) A (yx a (.str t tk) ((strKind prog w).hash t)) Q E s:=by
 have hkey:=ym prog w t tk
 rcases hS with ho | ⟨ep,tk',ho⟩
 ·have hel:ElemsOf (strKind prog w) (#[]:Array (Int × Value)).toList:=fun e he=>by cases he
  have hf:(smT (!byT w) []).fits (#[]:Array (Int × Value)).size=true:=rfl
  unfold yx setAddHashedIn
  refine ft (ae (mq ho rfl hf ?_))
  dsimp only
  rw[byScan_of (knd:=strKind prog w) rfl (by decide) hel]
  simp only [↓reduceIte]
  unfold setAddByScan
  refine ae ?_
  refine ae (mj ?_)
  refine ae (wpAny_setScan_of (knd:=strKind prog w) hkey ho rfl hf hel ?_)
  have hr0:ye (fun e=>(strKind prog w).is t e.2) (#[]:Array (Int × Value)).toList=none:=rfl
  rw[hr0]
  dsimp only
  rw[aLh,aJh]
  dsimp only
  refine ae (ak ?_)
  rw[if_pos (show (spT (!byT w) 7 [n5 ((strKind prog w).hash t) % 8] 0).plain=true from rfl),hashByValue_scannable 8 rfl]
  refine ae (ak ?_)
  rw[if_neg (show ¬ plainKind (.str t tk)=true from fun z=>by cases z)]
  refine ae (wpAny_storeSet_of ho rfl ?_ (by show 1<=ba;decide))
  have ho1:=aHq (ks:=[]) (es':=txE prog w t tk) (t':=pwT (!byT w) (txP prog w t)) ho rfl
  have sb1:=jq s.heap a (Obj.putSet (txE prog w t tk) (pwT (!byT w) (txP prog w t)))
  rw[if_neg]
  rotate_left
  ·exact (show ¬ ((!false && (pwT (!byT w) (txP prog w t)).tooFull)=true) from fun z=>by cases z)
  exact ak (ak (h _ _ sb1 ⟨_,tk,ho1⟩))
 ·have hel:=aFo (prog:=prog) (w:=w) (t:=t) (tk:=tk')
  have hf:=rO (aIJ (prog:=prog) (w:=w) (t:=t) (tk:=tk')) (!byT w)
  unfold yx setAddHashedIn
  refine ft (ae (mq ho rfl hf ?_))
  dsimp only
  have hsz:(txE prog w t tk').size<scanBound:=(show 1<scanBound by decide)
  rw[byScan_of (knd:=strKind prog w) (x := .str t tk) rfl hsz hel]
  simp only [↓reduceIte]
  unfold setAddByScan
  refine ae ?_
  refine ae (mj ?_)
  refine ae (wpAny_setScan_of (knd:=strKind prog w) hkey ho rfl hf hel ?_)
  have hr:ye (fun e=>(strKind prog w).is t e.2) (txE prog w t tk').toList=some 0:=by
   show ye _ [((strKind prog w).hash t,Value.str t tk')]=some 0
   rw[List.findIdx?_cons,show (strKind prog w).is t (.str t tk')=true from ym _ _ _ _,if_pos rfl]
  rw[hr]
  dsimp only
  refine ak (ak ?_)
  have e:s={ s with heap:=s.heap }:=by cases s;rfl
  rw[e]
  exact h s.heap _ (Heap.SameBut.refl a s.heap) ⟨ep,tk',ho⟩
end
section
variable {prog:Program}{w:World}{A:Around}{R:vv->Shared->Prop}{I:Addr}{fp wr:List Addr}{G:Array GenState->Array GenState->Prop}{n:Nat}{P:Nat->Value->Prop}{St:Nat->Shared->Prop}
theorem aHl (W:WalksS prog w A.in1 I fp wr G n P St)(S:Addr)(hSf:S∉fp){tx:Str}(hval:∀ i v,i<n->P i v->∃ t,v = .str tx t)(hn:0<n) :
  ∀ (k i:Nat) (s:Shared),n - i=k->i<=n->St i s->((i=0/\s.heap.get? S=some (smO w #[] 0 []))\/aCD prog w S tx s.heap) ->
   (∀ s',Moved (S :: wr) G s s'->aCD prog w S tx s'.heap->R (.ok (.ret .none)) s') ->
   uq (model prog w) A (.builtin "set.update.loop" ⟨[.ref S, .ref I],[]⟩) R s:=by
 have hSw:S∉wr:=fun h=>hSf (W.sub _ h)
 have hsub:∀ b∈wr,b∈S :: wr:=fun b hb=>bu _ hb
 intro k
 induction k with
 | zero=>
  intro i s hk hi hst hS hR
  have hin:i=n:=by omega
  subst hin
  refine jb u9 ?_
  rw[ke n9 _]
  show wpAny _ A.in1 (vf (.ref I) >>= _) _ _ s
  refine ae (W.done s _ _ hst fun s' hmv=>?_)
  show wpAny _ A.in1 (ret Value.none) _ _ s'
  rcases hS with ⟨z,_⟩ | ⟨ep,tk,ho⟩
  ·omega
  ·exact ak (hR s' (hmv.mono hsub) ⟨ep,tk,hmv.heap S _ hSw ho⟩)
 | succ k ih=>
  intro i s hk hi hst hS hR
  have hlt:i<n:=by omega
  refine jb u9 ?_
  rw[ke n9 _]
  show wpAny _ A.in1 (vf (.ref I) >>= _) _ _ s
  refine ae (W.item i s _ _ hlt hst fun v s' hP hst' hmv=>?_)
  obtain⟨t,rfl⟩:=hval i v hlt hP
  have hS':s'.heap.get? S=some (smO w #[] 0 [])\/aCD prog w S tx s'.heap:=by
   rcases hS with ⟨_,ho⟩ | ⟨ep,tk,ho⟩
   ·exact .inl (hmv.heap S _ hSw ho)
   ·exact .inr ⟨ep,tk,hmv.heap S _ hSw ho⟩
  show wpAny _ A.in1 (vt [Value.str tx t] (setAdd S (.str tx t)) >>= _) _ _ s'
  refine ae (ft ?_)
  unfold setAdd
  refine ft ?_
  refine ae ((strKind prog w).pyHash (k:=tx) (ym _ _ _ _) ?_)
  refine aIR (s:={ s' with toks:=s'.toks+1 }) hS' fun h' b hsb hS2=>?_
  refine ak ⟨yd n9 _,ih (i+1) _ (by omega) hlt (W.frame _ s' _ _ hst' (uu _) fun b hb o e=>?_) (.inr hS2) fun s'' hm'' hS''=>?_⟩
  ·rw[hsb.2 b (fun h:b=S=>hSf (by rw[<- h];exact hb))];exact e
  ·refine hR s'' (Moved.trans W.gtrans ((hmv.mono hsub).then_heap (uu _) fun b o hb e=>?_) hm'') hS''
   rw[hsb.2 b (fun h:b=S=>hb (by rw[h];exact dh))];exact e
end
section
variable {prog:Program}{w:World}{A:Around}{E:Value->Shared->Prop}{s:Shared}
theorem aAm {l:Addr}{items:Array Value}{tx:Str}{Q:Value->Shared->Prop}(hh:A.handled=none)(hl:s.heap.IsList l items)(hi:∀ v∈items.toList,∃ t,v = .str tx t)(hn:0<items.size)
  (h:∀ (h':Heap) (tk:Nat),aCD prog w s.heap.objs.size tx h'->(∀ b o,b<s.heap.objs.size->s.heap.get? b=some o->h'.get? b=some o)->Q (.ref s.heap.objs.size) { s with heap:=h',toks:=tk }) :
  wpAny (model prog w) A (call (.type "set") [.ref l]) Q E s:=by
 obtain⟨c,tl,hmro⟩:=mf.mro
 have hmade:=mf.made
 have hsub:=mf.sub
 refine yh (vx ?_)
 show wpAny _ _ (callAny (.type "set") _) _ _ _
 refine ak ⟨se _ (by decide +kernel),jb F.entry_type_call ?_⟩
 rw[Around.under_plain (weight_type_call_type "set" [.ref l] []) rfl]
 have h1:=mf.notType
 have h2:=mf.canCreate
 have hct:=F.typeCall_set_1 (.ref l)
 repeat (any_goals (first | assumption | wp_step))
 refine j3 (aHS (.ref l) (E:=E) (Q₁:=fun obj s1=>obj = .ref s.heap.objs.size/\s1={ s with heap:=s.heap.push (smO w #[] 0 []) }) ⟨rfl,rfl⟩) fun r s1 hr=>?_
 cases r with
 | error e=>exact hr
 | ok fl=>
  cases fl with
  | ret obj=>
   obtain⟨rfl,rfl⟩:=hr
   have hS:(s.heap.push (smO w #[] 0 [])).get? s.heap.objs.size=some (smO w #[] 0 []):=bh _ rfl
   have hT:Shared.TypeIs { s with heap:=s.heap.push (smO w #[] 0 []) } (.ref s.heap.objs.size) "set":=⟨_,hS,rfl⟩
   have hli:=mf.init.lookup
   have hbi:=mf.init.bind (.ref s.heap.objs.size)
   repeat (any_goals (first | assumption | wp_step))
   refine j3 (qc (R:=wants (fun r s2=>r = .none/\∃ h' tk,s2={ s with heap:=h',toks:=tk }/\aCD prog w s.heap.objs.size tx h'/\∀ b o,b<s.heap.objs.size->s.heap.get? b=some o->h'.get? b=some o) E) mf.init.plain F.entry_set_init (check_set_init_1 hT ?_)) fun r2 s2 hr2=>?_
   ·obtain⟨ol,hol,hcl,nl,hdl⟩:=hl
    obtain⟨ocls,odict,odata,oslots⟩:=ol
    simp only at hcl hdl
    subst hcl;subst hdl
    have hol':(s.heap.push (smO w #[] 0 [])).get? l=some { cls := .type "list",dict:=odict,data := .seq items nl,slots:=oslots }:=aj _ hol
    have hsls:=F.sub_list_set
    have hslf:=F.sub_list_frozenset
    have hne:(Value.type "list" == Value.type "dict")=false:=by decide
    have hl1:(s.heap.push (smO w #[] 0 [])).IsList l items:=⟨_,hol',rfl,nl,rfl⟩
    have hlS:l<s.heap.objs.size:=bo hol
    unfold Builtin.«set.__init__» noKeywords Builtin.Frozenset.updateFrom
    generalize hPI:y9=PI
    wp_walk
    subst hPI
    refine oz hl1 ?_
    refine ae (xf ?_)
    have hh3:A.in1.in1.in1.handled=none:=by simp [hh]
    have hneI:l≠(s.heap.push (smO w #[] 0 [])).objs.size:=by
     rw[fv]
     exact di (gw hlS)
    refine aHl ((Walks.list hh3 _ l hneI items).toS) s.heap.objs.size ?_ (tx:=tx) (fun i v hlt hv=>?_) hn (items.size - 0) 0 _ (by omega) (ay _) ⟨⟨_,bh _ rfl,rfl,rfl⟩,hl1.push _⟩ (.inl ⟨rfl,aj _ (bh _ rfl)⟩) ?_
    ·rw[fv]
     simp only [dk,jg,or_false,not_or]
     exact ⟨di (jv _),jk hlS⟩
    ·have hv:items[i]?=some v:=hv
     exact hi v (jc.mpr ⟨i,by rw[pf];exact hv⟩)
    ·intro s' hm hS'
     obtain⟨h',g',d',tk',os'⟩:=s'
     have eg:g'=s.gens:=hm.gens
     have ed:d'=s.drawn:=hm.drawn
     have eo:os'=s.os:=hm.os
     subst eg ed eo
     show wpAny _ _ _ _ _ _
     refine ak ?_
     show wpAny _ _ (ret Value.none) _ _ _
     refine ak ⟨rfl,h',tk',rfl,hS',fun b o hb e=>hm.heap b o ?_ (aj _ (aj _ e))⟩
     rw[fv]
     simp only [dk,jg,or_false,not_or]
     exact ⟨di hb,di (gw hb)⟩
   ·cases r2 with
    | error e=>exact hr2
    | ok fl2=>
     cases fl2 with
     | ret r=>
      obtain⟨rfl,h',tk,rfl,hd⟩:=hr2
      repeat (any_goals (first | assumption | wp_step))
      exact h _ _ hd.1 hd.2
     | _=>exact hr2.elim
  | _=>exact hr.elim
theorem aAi {a:Addr}{vs:List Value}{n:Nat}{R:List (List Int)}{P:Fin->Shared->Prop}(ho:s.heap.get? a=some (jo "list" vs.toArray n))(hlen:vs.length=R.length)(c:vs.toArray.size<2)
  (h:∀ p,Put R p->P (.done (.ret .none)) { s with heap:=wt s.heap a vs (iq (p.toList.map fun i=>vs.getD i Value.none)) }):wpAny (model prog w) A (Builtin.«list.sort» ⟨[.ref a],[]⟩) P E s:=by
 have ha:=bo ho
 have hz:vs.length<=ba:=by have:=c;rw[aq] at this;rw[uo];omega
 obtain⟨e1,ho1⟩:∃ e1,(s.heap.update a (je fun _=>#[])).get? a=some (jo "list" #[] e1):=⟨_,v3 ho fun _=>#[]⟩
 rw[list_sort_plain]
 refine ae (vz ho rfl (ae (qg ho rfl ?g1 (by rw[aq];exact hz) (ay _))))
 case g1=>
 refine ae (xp ho1 rfl (ae (tu ?g2 (by show vs.length<=_;exact hz))))
 case g2=>
 refine ae (qf (ft ?g3) (ay _))
 case g3=>
 obtain⟨h3,eh⟩:∃ h3,h3=((s.heap.update a (je fun _=>(#[]:Array Value))).push (jo "tuple" vs.toArray 0)).push (jo "list" #[] 0):=⟨_,rfl⟩
 show wpAny (model prog w) A _ P E { s with heap:=((s.heap.update a (je fun _=>#[])).push (jo "tuple" vs.toArray 0)).push (jo "list" #[] 0) }
 rw[<- eh]
 have ho3:h3.get? a=some (jo "list" #[] e1):=by
  rw[eh]
  exact aj _ (aj _ ho1)
 dsimp only
 have fin:∀ (p:Array Nat) (st':ui),Put R p->p.size=vs.length->arrOf st'=p.map (kas_item (vs.toArray.zip vs.toArray))->u6 st'=none->wpAny (model prog w) A (do
   let touched:=(<- seqEpoch a) != e1
   u7 (.ref a) fun _=>(arrOf st').map (·.2)
   if let some e:=u6 st' then rule "list.sort.comparison-raised";throw e
   if touched then rule "list.sort.modified";raiseError "ValueError" "list modified during sort"
   ret .none) P E { s with heap:=h3 }:=fun p st' hp hsz har hf=>by
  rw[kat_snds rfl har,hf]
  refine ae (xp ho3 rfl (ae (qg ho3 rfl ?g4 (ay _) ?g5)))
  case g5=>
   show (iq _).size<=_
   rw[aq,af,dw];have:=c;rw[aq] at this;omega
  case g4=>
   simp only [bne_self_eq_false,e7,if_false]
   have:=h p hp
   unfold wt at this
   rw[<- eh] at this
   exact ak this
 ·rw[if_pos c,if_pos c]
  refine ae (ak ?g6)
  case g6=>
  rw[StateT.run_pure]
  refine ae (ak ?g7)
  case g7=>
  have e2:(vs.toArray.zip vs.toArray).size=vs.length:=by simp
  refine fin (iq (av vs.length)) (SortSt.mk' general' (vs.toArray.zip vs.toArray) #[] 7 none) ⟨by rw[hlen],fun i j hij hj=>?_⟩ (by simp) ?_ rfl
  ·have hl:R.length<2:=by rw[<- hlen];simpa using c
   rw[show i=j by omega]
   exact mQ _
  ·have:=kas_range (vs.toArray.zip vs.toArray)
   rw[e2] at this
   exact this.symm
theorem aEW {a:Addr}{v:Value}{n:Nat}{P:Fin->Shared->Prop}(ho:s.heap.get? a=some (jo "list" [v].toArray n))(h:P (.done (.ret .none)) { s with heap:=wt s.heap a [v] #[v] }):wpAny (model prog w) A (Builtin.«list.sort» ⟨[.ref a],[]⟩) P E s:=by
 refine aAi (R:=[[]]) ho rfl (show 1<2 by decide) fun p hp=>?_
 have pl:p.toList.Perm (av 1):=by simpa using mx.mp hp.1
 have:p.toList=[0]:=xt.mp pl
 rw[this]
 exact h
theorem aEg {a:Addr}{tx:Str}{Q:Value->Shared->Prop}(hh:A.handled=none)(hS:aCD prog w a tx s.heap)
  (q:∀ (l:Addr) (h':Heap) (tk:Nat) (t:Tok) (c:Nat),s.heap.objs.size<=l->(∀ b o,s.heap.get? b=some o->h'.get? b=some o)->h'.get? l=some (jo "list" #[.str tx t] c)->Q (.ref l) { s with heap:=h',toks:=tk }):wpAny (model prog w) A (call (.builtin "sorted") [.ref a]) Q E s:=by
 obtain⟨ep,tk0,ho⟩:=hS
 refine t6 kind_sorted plain_sorted entry_sorted (args_sorted1 _) ?g1
 case g1=>
  unfold Builtin.«sorted»
  refine ae (m:=checkCount "sorted" 1 1 _) (ak (ae (aCu hh ho aIJ fun h1 tk hk hz=>?g2)))
  case g2=>
   have ew:(gN w a ep (txE prog w tx tk0)).toList.map (·.2)=[.str tx tk0]:=by
    have hp:=(iU w a ep (txE prog w tx tk0)).map (·.2)
    exact xt.mp hp
   rw[ew]
   refine ae (qf ?g3 (by show 1<=ba;decide))
   case g3=>
    have e2:(h1.push (jo "list" [Value.str tx tk0].toArray 0)).get? h1.objs.size=some (jo "list" [Value.str tx tk0].toArray 0):=bh _ rfl
    show wpAny _ _ _ _ _ { s with heap:=h1.push (jo "list" [Value.str tx tk0].toArray 0),toks:=tk }
    refine ae (ft (e8 slot_list_sort ⟨_,e2,rfl⟩ entry_list_sort (aEW (s:={ s with heap:=h1.push (jo "list" [Value.str tx tk0].toArray 0),toks:=tk }) e2 ⟨_,rfl,ak ⟨_,rfl,?g4⟩⟩) (args_list_sort _)))
    case g4=>
     obtain⟨c,he⟩:=sortedHeap_at (vs:=[Value.str tx tk0]) (out:=#[Value.str tx tk0]) e2
     refine q h1.objs.size _ tk tk0 c (gy hz) (fun b o e=>?_) he
     have hb:b<h1.objs.size:=bo (hk b o e)
     rw[sortedHeap_old (di hb) (by rw[fv];exact gw hb)]
     exact aj _ (hk b o e)
end
section
variable {X:Cx}
theorem aGK {K:aa}{k:Nat}(hK:X.K=K)(hr:Room k X.A):OpR X (gj .Lt) (aKC K):=by subst hK;exact aIm (by have:=hr.un;omega)
def aJj (p:Program) (w:World) (K:aa):List V->Hp->VK->Prop:=fun vs H Q=>∃ (a:Addr) (xs:List V) (t:Str),vs=[.ref a]/\SqL K H a xs/\xs≠[]/\(∀ x∈xs,x = .str t)/\∀ b,H b=none->Q (.ref b) (upd H b (.ext (aCD p w b t)))
def aFT (p:Program) (w:World):List V->Hp->VK->Prop:=fun vs H Q=>∃ (a:Addr) (t:Str),vs=[.ref a]/\H a=some (.ext (aCD p w a t))/\∀ l,H l=none->Q (.ref l) (upd H l (.lst [.str t]))
theorem aBc {t:Str}:∀ {xs:List V} {its:List Value},Vals xs its->(∀ x∈xs,x = .str t)->∀ v∈its,∃ tk,v = .str t tk
 | _,_, .nil,_,v,hv=>by cases hv
 | _,_, .cons r rs,h,v,hv=>by
  rcases dk.mp hv with rfl | hv
  ·have:=h _ (dh ..)
   subst this
   obtain⟨tk,e⟩:=r
   exact ⟨tk,e⟩
  ·exact aBc rs (fun x hx=>h x (bu _ hx)) v hv
theorem aDq (hc:X.calm=true):CallR X (.type "set") (aJj X.prog X.w X.K):=by
 intro pins s σ H xs us Q I r ⟨a,ys,t,e,ha,ne,al,q⟩
 subst e
 obtain⟨u,rfl,ru⟩:=r.one
 obtain rfl:u=Value.ref a:=ru
 obtain⟨its,rv,pl,hz⟩:=I.list ha
 refine aAm (items:=its.toArray) (tx:=t) (I.ok.hd hc) pl.isList (fun v hv=>aBc rv al v (by simpa using hv)) (by rw[aq,<- rv.length];exact List.length_pos_iff.mpr ne) fun h' tk d1 d2=>?_
 obtain⟨ep,tk',o1⟩:=id d1
 exact ⟨.ref s.heap.objs.size,_,I.laid (a:=s.heap.objs.size) (o := .ext (aCD X.prog X.w s.heap.objs.size t)) (fun b u e=>d2 b u (bo e) e) (bg _) ⟨d1,⟨_,o1⟩,fun h1 h2 ⟨ep,tk,z1⟩ k=>⟨ep,tk,k _ z1⟩⟩,rfl,q _ (I.hok.fresh (bg _))⟩
theorem aCz (hc:X.calm=true):CallR X (.builtin "sorted") (aFT X.prog X.w):=by
 intro pins s σ H xs us Q I r ⟨a,t,e,ha,q⟩
 subst e
 obtain⟨u,rfl,ru⟩:=r.one
 obtain rfl:u=Value.ref a:=ru
 have hS:aCD X.prog X.w a t s.heap:=(I.hok a _ ha).1
 refine aEg (I.ok.hd hc) hS fun l h' tk tk' c hl hk he=>?_
 refine ⟨.ref l,_,I.laid (a:=l) (t':=tk) (o := .lst [.str t]) hk hl ⟨by show 1<=ba;decide,[.str t tk'],c, .cons ⟨tk',rfl⟩ .nil,he⟩,rfl,q l (I.hok.fresh hl)⟩
def aLn (K:aa):List V->Hp->VK->Prop:=fun vs H Q=>∃ (a:Addr) (xs:List V) (t:Str),vs=[.ref a]/\SqL K H a xs/\xs≠[]/\(∀ x∈xs,x = .str t)/\xs.length<=1000 /\
 ∀ H',Same H H'->∀ l,H' l=none->Q (.ref l) (upd H' l (.lst [.str t]))
theorem aJb {K:aa}{x y:Str}{p p' pos pos':Pos}{e:Expr}{es:List Expr}{t:TA}(hK:X.K=K)(hc:X.calm=true)(hg:Gl X x)(hm:X.mg x=none)(hv:d9 x=some (.builtin "sorted"))(hg':Gl X y)(hm':X.mg y=none)(hv':d9 y=some (.type "set"))(ha:PA X (e :: es) t)
  (hn:x≠"__name__":=by decide) (hdb:(x == ("__debug__" : Str))=false:=by decide) (hn':y≠"__name__":=by decide) (hdb':(y == ("__debug__" : Str))=false:=by decide)
  (he:dz (e :: es) X.env=(false,eval e X.env) :: dz es X.env:=by rfl) (hpl:(rh pos' (dz es X.env)).any (·.1)=false:=by rfl):PE X (.Call (.Name x p) [.Call (.Name y p') (e :: es) [] pos'] [] pos) (tCB (aLn K) t):=by
 subst hK
 have h1:PE X (.Call (.Name x p) [.Call (.Name y p') (e :: es) [] pos'] [] pos) (tCB (aFT X.prog X.w) (aC (tCB (aJj X.prog X.w X.K) (tCl t)) aO)):=aN (aCz hc) hg hm hv (bJ (dY (aDq hc) hg' hm' hv' (aLi ha) hn' hdb' he hpl) aE) hn hdb
 intro pins s σ H Q I h
 refine h1 pins s σ H Q I ⟨_,h,fun vs H1 ⟨a,xs,t,e1,e2,e3,e4,_,e5⟩=>⟨a,xs,t,e1,e2,e3,e4,fun p hp=>?_⟩⟩
 exact ⟨p,t,rfl,aD,fun l hl=>e5 _ (aG hp _) l hl⟩
end
end L2
namespace K40
open PySem L2
def top (i:Nat):Stmt:=PySem.Challenge.pw_homeround_k40_shares_refused.main.body.getD i (.Pass ⟨0,0,0,0⟩)
section
variable {P:Program}{w:World}{K:aa}{mg:Str->Option Value}{base:Heap}{f:Addr}{fd:FuncData}
theorem sK:bC ["thing"] ["thing"] (aJ (top 11)):=⟨rfl,rfl,rfl,by decide +kernel,rfl,by decide +kernel,by decide +kernel⟩
def uV (K:aa)   : TS:=(aP (eK (zC (tCB (aGP K) (aC (aF 0) (aC (tC (.ty "int")) aO))) (aIk (tCB (aGP K) (aC (aF 0) (aC (tC (.ty "bool")) aO)))))) aL)
theorem aAD (F:Fun K "is_whole" "is_whole" (top 11) f fd)(B:iC mg)      {sp:Sp}(len:∀ vs H Q E,sp vs H Q E->vs.length=1)
  (rd:∀ vs H Q E,sp vs H Q E->uV K   { nx:=fun _ H'=>Q .non H',rt:=Q } (bD ["thing"] vs) H):FnOk P w K mg base CX0 1 f fd ["thing"] sp:=by
 refine F.ok sK len (fun cdv A outer s H vs Q E hr h=>⟨_,?_,rd vs H Q E h⟩)
 have nd:=sK.nd
 exact (@aA _ _ _ _ _ (@bL _ _ _ _ (rT (aN (jT (K:=K) rfl) rfl B.isi jZ (@aB _ _ _ _ _ _ (pv 0) (@aB _ _ _ _ _ _ (oH (v := .ty "int") rfl B.int aGn rfl) aE))) (pH (aJo (aN (jT (K:=K) rfl) rfl B.isi jZ (@aB _ _ _ _ _ _ (pv 0) (@aB _ _ _ _ _ _ (oH (v := .ty "bool") rfl B.bool aHw rfl) aE))))))) aH)
theorem mV:bC ["thing"] ["thing"] (aJ (top 12)):=⟨rfl,rfl,rfl,by decide +kernel,rfl,by decide +kernel,by decide +kernel⟩
def pO (K:aa)  (iY:Sp):TS:=(aP (eK (zC (tCB (aGP K) (aC (aF 0) (aC (tC (.ty "tuple")) aO))) (tCB (aGH K) (aC (dO [none] (lG K (aF 0)) (aK 0) [] fun acc=>(dI (bG iY [] E0 (aC (aF 0) aO)) acc)) aO)))) aL)
theorem wZ (F:Fun K "are_wholes" "are_wholes" (top 12) f fd)(B:iC mg)    {iY:Sp}(oS:Def P w K mg base "is_whole" 1 ["thing"] iY)  {sp:Sp}(len:∀ vs H Q E,sp vs H Q E->vs.length=1)
  (rd:∀ vs H Q E,sp vs H Q E->pO K  iY { nx:=fun _ H'=>Q .non H',rt:=Q } (bD ["thing"] vs) H):FnOk P w K mg base CX0 2 f fd ["thing"] sp:=by
 refine F.ok mV len (fun cdv A outer s H vs Q E hr h=>⟨_,?_,rd vs H Q E h⟩)
 have nd:=mV.nd
 exact (@aA _ _ _ _ _ (@bL _ _ _ _ (rT (aN (jT (K:=K) rfl) rfl B.isi jZ (@aB _ _ _ _ _ _ (pv 0) (@aB _ _ _ _ _ _ (oH (v := .ty "tuple") rfl B.tuple gX rfl) aE))) (pH (aN (iG (K:=K) rfl rfl) rfl B.all uL (cL (cK (N':=["part"]) (ix:=[none]) rfl rfl rfl (cG (K:=K) rfl (pv 0)) (fun _ _ _=>(aM (i:=0) (show (["part"]:List Str).Nodup from by decide +kernel) rfl (Or.inl rfl))) (fun _ _ _ => .nil) (fun _ _ _ _=>(bS rfl (aU (oS.mono (by decide)) hr rfl (@aB _ _ _ _ _ _ (pv 0) aE)) rfl))) aE))))) aH)
theorem zD:bC ["top","bottom","measure"] ["top","bottom"] (aJ (top 14)):=⟨rfl,rfl,rfl,by decide +kernel,rfl,by decide +kernel,by decide +kernel⟩
def aAY (K:aa)  (aW:Sp):TS:=(aP (bW (bG aW [] E0 (aC (aF 0) (aC (aF 1) aO))) (aK 2)) (aP (fV (bU (tOp yLt (aF 1) (tC (.int 0)))) (aP (bW (tUn aAf (aF 2)) (aK 2)) aL) aL) (aP (eK (iN (aC (tOp vL (aF 0) (aF 2)) (aC (tOp vL (aF 1) (aF 2)) aO)))) aL)))
theorem aEl (F:Fun K "lowest" "lowest" (top 14) f fd)(B:iC mg)    {aW:Sp}(bX:Def P w K mg base "common_measure" 1 ["one","other"] aW)  {sp:Sp}(len:∀ vs H Q E,sp vs H Q E->vs.length=2)
  (rd:∀ vs H Q E,sp vs H Q E->aAY K  aW { nx:=fun _ H'=>Q .non H',rt:=Q } (bD ["top","bottom","measure"] vs) H):FnOk P w K mg base CX0 2 f fd ["top","bottom"] sp:=by
 refine F.ok zD len (fun cdv A outer s H vs Q E hr h=>⟨_,?_,rd vs H Q E h⟩)
 have nd:=zD.nd
 exact (@aA _ _ _ _ _ (@aY _ _ 2 _ _ _ _ nd rfl (Or.inl rfl) (aU (bX.mono (by decide)) hr rfl (@aB _ _ _ _ _ _ (pv 0) (@aB _ _ _ _ _ _ (pv 1) aE))) (by rfl) (by first | exact .inl rfl | exact .inr rfl | assumption)) (@aA _ _ _ _ _ (@eL _ _ _ _ _ _ _ _ (bN mX (pv 1) aI (bK _)) (@aA _ _ _ _ _ (@aY _ _ 2 _ _ _ _ nd rfl (Or.inl rfl) (lS gL (pv 2)) (by rfl) (by first | exact .inl rfl | exact .inr rfl | assumption)) aH) aH) (@aA _ _ _ _ _ (@bL _ _ _ _ (@cY _ _ _ _ _ (@dU _ _ _ _ _ _ _ _ (@bI _ _ _ _ _ _ _ _ kS (pv 0) (pv 2)) (@dU _ _ _ _ _ _ _ _ (@bI _ _ _ _ _ _ _ _ kS (pv 1) (pv 2)) aE)))) aH)))
theorem iK:bC ["one","other","left"] ["one","other"] (aJ (top 15)):=⟨rfl,rfl,rfl,by decide +kernel,rfl,by decide +kernel,by decide +kernel⟩
def jK (K:aa)   : TS:=(aP (bW (tCB aCw (aC (aF 0) aO)) (aK 0)) (aP (bW (tCB aCw (aC (aF 1) aO)) (aK 1)) (aP (aDm (bU (tOp yGt (aF 1) (tC (.int 0)))) (aP (bW (tOp aAG (aF 0) (aF 1)) (aK 2)) (aP (bW (aF 1) (aK 0)) (aP (bW (aF 2) (aK 1)) aL)))) (aP (eK (aF 0)) aL))))
theorem oG (F:Fun K "common_measure" "common_measure" (top 15) f fd)(B:iC mg)      {sp:Sp}(len:∀ vs H Q E,sp vs H Q E->vs.length=2)
  (rd:∀ vs H Q E,sp vs H Q E->jK K   { nx:=fun _ H'=>Q .non H',rt:=Q } (bD ["one","other","left"] vs) H):FnOk P w K mg base CX0 1 f fd ["one","other"] sp:=by
 refine F.ok iK len (fun cdv A outer s H vs Q E hr h=>⟨_,?_,rd vs H Q E h⟩)
 have nd:=iK.nd
 exact (@aA _ _ _ _ _ (@aY _ _ 0 _ _ _ _ nd rfl (Or.inl rfl) (aN mT rfl B.abs aBo (@aB _ _ _ _ _ _ (pv 0) aE)) (by rfl) (by first | exact .inl rfl | exact .inr rfl | assumption)) (@aA _ _ _ _ _ (@aY _ _ 1 _ _ _ _ nd rfl (Or.inl rfl) (aN mT rfl B.abs aBo (@aB _ _ _ _ _ _ (pv 1) aE)) (by rfl) (by first | exact .inl rfl | exact .inr rfl | assumption)) (@aA _ _ _ _ _ (aBN ff (bN tX (pv 1) aI (bK _)) (@aA _ _ _ _ _ (@aY _ _ 2 _ _ _ _ nd rfl (Or.inl rfl) (@bI _ _ _ _ _ _ _ _ kZ (pv 0) (pv 1)) (by rfl) (by first | exact .inl rfl | exact .inr rfl | assumption)) (@aA _ _ _ _ _ (@aY _ _ 0 _ _ _ _ nd rfl (Or.inl rfl) (pv 1) (by rfl) (by first | exact .inl rfl | exact .inr rfl | assumption)) (@aA _ _ _ _ _ (@aY _ _ 1 _ _ _ _ nd rfl (Or.inl rfl) (pv 2) (by rfl) (by first | exact .inl rfl | exact .inr rfl | assumption)) aH)))) (@aA _ _ _ _ _ (@bL _ _ _ _ (pv 0)) aH))))
theorem lN:bC ["thing","top","bottom"] ["thing"] (aJ (top 16)):=⟨rfl,rfl,rfl,by decide +kernel,rfl,by decide +kernel,by decide +kernel⟩
def mK (K:aa)  (bP:Sp) (aW:Sp):TS:=(aP (fV (tOr (aAO (tB (bG bP [] E0 (aC (aF 0) aO)))) (bU (tOp (aBK K) (tCB (jM K) (aC (aF 0) aO)) (tC (.int 2))))) (aP (eK (tC (.bl false))) aL) aL) (aP (bW (aF 0) (pE K 2 (cP (aK 1) (cP (aK 2) qC)))) (aP (eK (zC (tOp yGe (aF 2) (tC (.int 1))) (tOp (iX K) (bG aW [] E0 (aC (aF 1) (aC (aF 2) aO))) (tC (.int 1))))) aL)))
theorem tR (F:Fun K "is_fraction" "is_fraction" (top 16) f fd)(B:iC mg)    {bP:Sp}(dD:Def P w K mg base "are_wholes" 2 ["thing"] bP){aW:Sp}(bX:Def P w K mg base "common_measure" 1 ["one","other"] aW)  {sp:Sp}(len:∀ vs H Q E,sp vs H Q E->vs.length=1)
  (rd:∀ vs H Q E,sp vs H Q E->mK K  bP aW { nx:=fun _ H'=>Q .non H',rt:=Q } (bD ["thing","top","bottom"] vs) H):FnOk P w K mg base CX0 3 f fd ["thing"] sp:=by
 refine F.ok lN len (fun cdv A outer s H vs Q E hr h=>⟨_,?_,rd vs H Q E h⟩)
 have nd:=lN.nd
 exact (@aA _ _ _ _ _ (@eL _ _ _ _ _ _ _ _ (PW.pt (mZ (iF (eY (aU (dD.mono (by decide)) hr rfl (@aB _ _ _ _ _ _ (pv 0) aE)))) (jY (bN (nC (K:=K) rfl hr) (aN (aX (K:=K) rfl) rfl B.len cS (@aB _ _ _ _ _ _ (pv 0) aE)) aI (bK _))))) (@aA _ _ _ _ _ (@bL _ _ _ _ mI) aH) aH) (@aA _ _ _ _ _ (gY (pv 0) (cW (K:=K) rfl rfl (aR (aM (i:=1) nd rfl (Or.inl rfl)) (aR (aM (i:=2) nd rfl (Or.inl rfl)) cV)))) (@aA _ _ _ _ _ (@bL _ _ _ _ (rT (dL aIS (pv 2) aI (bK _)) (pH (dL (fG (K:=K) rfl hr) (aU (bX.mono (by decide)) hr rfl (@aB _ _ _ _ _ _ (pv 1) (@aB _ _ _ _ _ _ (pv 2) aE))) aI (bK _))))) aH)))
theorem aBz:bC ["one","other"] ["one","other"] (aJ (top 17)):=⟨rfl,rfl,rfl,by decide +kernel,rfl,by decide +kernel,by decide +kernel⟩
def aDG (K:aa)  (cB:Sp):TS:=(aP (eK (bG cB [] E0 (aC (tOp fL (tOp (bH K) (aF 0) (tC (.int 0))) (tOp (bH K) (aF 1) (tC (.int 0)))) (aC (tOp fL (tOp (bH K) (aF 0) (tC (.int 1))) (tOp (bH K) (aF 1) (tC (.int 1)))) aO)))) aL)
theorem aFk (F:Fun K "times" "times" (top 17) f fd)(B:iC mg)    {cB:Sp}(eA:Def P w K mg base "lowest" 2 ["top","bottom"] cB)  {sp:Sp}(len:∀ vs H Q E,sp vs H Q E->vs.length=2)
  (rd:∀ vs H Q E,sp vs H Q E->aDG K  cB { nx:=fun _ H'=>Q .non H',rt:=Q } (bD ["one","other"] vs) H):FnOk P w K mg base CX0 3 f fd ["one","other"] sp:=by
 refine F.ok aBz len (fun cdv A outer s H vs Q E hr h=>⟨_,?_,rd vs H Q E h⟩)
 have nd:=aBz.nd
 exact (@aA _ _ _ _ _ (@bL _ _ _ _ (aU (eA.mono (by decide)) hr rfl (@dU _ _ _ _ _ _ _ _ (@bI _ _ _ _ _ _ _ _ dB (@bE _ _ _ _ _ _ _ (aQ (K:=K) rfl) (pv 0) aI (fun _ _=>rfl)) (@bE _ _ _ _ _ _ _ (aQ (K:=K) rfl) (pv 1) aI (fun _ _=>rfl))) (@dU _ _ _ _ _ _ _ _ (@bI _ _ _ _ _ _ _ _ dB (@bE _ _ _ _ _ _ _ (aQ (K:=K) rfl) (pv 0) aI (fun _ _=>rfl)) (@bE _ _ _ _ _ _ _ (aQ (K:=K) rfl) (pv 1) aI (fun _ _=>rfl))) aE)))) aH)
theorem uT:bC ["one","other"] ["one","other"] (aJ (top 18)):=⟨rfl,rfl,rfl,by decide +kernel,rfl,by decide +kernel,by decide +kernel⟩
def yH (K:aa)   : TS:=(aP (eK (tOp yLt (tOp fL (tOp (bH K) (aF 0) (tC (.int 0))) (tOp (bH K) (aF 1) (tC (.int 1)))) (tOp fL (tOp (bH K) (aF 1) (tC (.int 0))) (tOp (bH K) (aF 0) (tC (.int 1)))))) aL)
theorem aCm (F:Fun K "is_less" "is_less" (top 18) f fd)(B:iC mg)      {sp:Sp}(len:∀ vs H Q E,sp vs H Q E->vs.length=2)
  (rd:∀ vs H Q E,sp vs H Q E->yH K   { nx:=fun _ H'=>Q .non H',rt:=Q } (bD ["one","other"] vs) H):FnOk P w K mg base CX0 1 f fd ["one","other"] sp:=by
 refine F.ok uT len (fun cdv A outer s H vs Q E hr h=>⟨_,?_,rd vs H Q E h⟩)
 have nd:=uT.nd
 exact (@aA _ _ _ _ _ (@bL _ _ _ _ (dL mX (@bI _ _ _ _ _ _ _ _ dB (@bE _ _ _ _ _ _ _ (aQ (K:=K) rfl) (pv 0) aI (fun _ _=>rfl)) (@bE _ _ _ _ _ _ _ (aQ (K:=K) rfl) (pv 1) aI (fun _ _=>rfl))) (@bI _ _ _ _ _ _ _ _ dB (@bE _ _ _ _ _ _ _ (aQ (K:=K) rfl) (pv 1) aI (fun _ _=>rfl)) (@bE _ _ _ _ _ _ _ (aQ (K:=K) rfl) (pv 0) aI (fun _ _=>rfl))) (bK _))) aH)
theorem jI:bC ["some","common","top","bottom"] ["some"] (aJ (top 19)):=⟨rfl,rfl,rfl,by decide +kernel,rfl,by decide +kernel,by decide +kernel⟩
def kE (K:aa)  (aW:Sp):TS:=(aP (bW (tC (.int 1)) (aK 1)) (aP (tK (lG K (aF 0)) (pE K 2 (cP (aK 2) (cP (aK 3) qC))) (aP (bW (tOp fL (aF 1) (tOp vL (aF 3) (bG aW [] E0 (aC (aF 1) (aC (aF 3) aO))))) (aK 1)) aL)) (aP (eK (aF 1)) aL)))
theorem pX (F:Fun K "common_bottom" "common_bottom" (top 19) f fd)(B:iC mg)    {aW:Sp}(bX:Def P w K mg base "common_measure" 1 ["one","other"] aW)  {sp:Sp}(len:∀ vs H Q E,sp vs H Q E->vs.length=1)
  (rd:∀ vs H Q E,sp vs H Q E->kE K  aW { nx:=fun _ H'=>Q .non H',rt:=Q } (bD ["some","common","top","bottom"] vs) H):FnOk P w K mg base CX0 2 f fd ["some"] sp:=by
 refine F.ok jI len (fun cdv A outer s H vs Q E hr h=>⟨_,?_,rd vs H Q E h⟩)
 have nd:=jI.nd
 exact (@aA _ _ _ _ _ (@aY _ _ 1 _ _ _ _ nd rfl (Or.inl rfl) aI (by rfl) (by first | exact .inl rfl | exact .inr rfl | assumption)) (@aA _ _ _ _ _ (gH ff rfl (cG (K:=K) rfl (pv 0)) (cW (K:=K) rfl rfl (aR (aM (i:=2) nd rfl (Or.inl rfl)) (aR (aM (i:=3) nd rfl (Or.inl rfl)) cV))) (@aA _ _ _ _ _ (@aY _ _ 1 _ _ _ _ nd rfl (Or.inl rfl) (@bI _ _ _ _ _ _ _ _ dB (pv 1) (@bI _ _ _ _ _ _ _ _ kS (pv 3) (aU (bX.mono (by decide)) hr rfl (@aB _ _ _ _ _ _ (pv 1) (@aB _ _ _ _ _ _ (pv 3) aE))))) (by rfl) (by first | exact .inl rfl | exact .inr rfl | assumption)) aH)) (@aA _ _ _ _ _ (@bL _ _ _ _ (pv 1)) aH)))
theorem pP:bC ["some","bottom"] ["some","bottom"] (aJ (top 20)):=⟨rfl,rfl,rfl,by decide +kernel,rfl,by decide +kernel,by decide +kernel⟩
def sY (K:aa)   : TS:=(aP (eK (dO [none,none,some 1] (lG K (aF 0)) (pE K 2 (cP (aK 0) (cP (aK 1) qC))) [] fun acc=>(dI (tOp fL (aF 0) (tOp vL (aF 2) (aF 1))) acc))) aL)
theorem zG (F:Fun K "tops_over" "tops_over" (top 20) f fd)(B:iC mg)      {sp:Sp}(len:∀ vs H Q E,sp vs H Q E->vs.length=2)
  (rd:∀ vs H Q E,sp vs H Q E->sY K   { nx:=fun _ H'=>Q .non H',rt:=Q } (bD ["some","bottom"] vs) H):FnOk P w K mg base CX0 1 f fd ["some","bottom"] sp:=by
 refine F.ok pP len (fun cdv A outer s H vs Q E hr h=>⟨_,?_,rd vs H Q E h⟩)
 have nd:=pP.nd
 exact (@aA _ _ _ _ _ (@bL _ _ _ _ (cK (N':=["top","own","bottom"]) (ix:=[none,none,some 1]) rfl rfl rfl (cG (K:=K) rfl (pv 0)) (fun _ _ _=>(cW (K:=K) rfl rfl (aR (aM (i:=0) (show (["top","own","bottom"]:List Str).Nodup from by decide +kernel) rfl (Or.inl rfl)) (aR (aM (i:=1) (show (["top","own","bottom"]:List Str).Nodup from by decide +kernel) rfl (Or.inl rfl)) cV)))) (fun _ _ _ => .nil) (fun _ _ _ _=>(bS rfl (@bI _ _ _ _ _ _ _ _ dB (pv 0) (@bI _ _ _ _ _ _ _ _ kS (pv 2) (pv 1))) rfl)))) aH)
theorem aBg:bC ["some","bottom"] ["some"] (aJ (top 21)):=⟨rfl,rfl,rfl,by decide +kernel,rfl,by decide +kernel,by decide +kernel⟩
def aCE (K:aa)  (eQ:Sp) (cB:Sp) (hJ:Sp):TS:=(aP (bW (bG eQ [] E0 (aC (aF 0) aO)) (aK 1)) (aP (eK (bG cB [] E0 (aC (tCB (aLl K) (aC (bG hJ [] E0 (aC (aF 0) (aC (aF 1) aO))) aO)) (aC (aF 1) aO)))) aL))
theorem aEM (F:Fun K "total" "total" (top 21) f fd)(B:iC mg)    {eQ:Sp}(gQ:Def P w K mg base "common_bottom" 2 ["some"] eQ){cB:Sp}(eA:Def P w K mg base "lowest" 2 ["top","bottom"] cB){hJ:Sp}(lV:Def P w K mg base "tops_over" 1 ["some","bottom"] hJ)  {sp:Sp}(len:∀ vs H Q E,sp vs H Q E->vs.length=1)
  (rd:∀ vs H Q E,sp vs H Q E->aCE K  eQ cB hJ { nx:=fun _ H'=>Q .non H',rt:=Q } (bD ["some","bottom"] vs) H):FnOk P w K mg base CX0 3 f fd ["some"] sp:=by
 refine F.ok aBg len (fun cdv A outer s H vs Q E hr h=>⟨_,?_,rd vs H Q E h⟩)
 have nd:=aBg.nd
 exact (@aA _ _ _ _ _ (@aY _ _ 1 _ _ _ _ nd rfl (Or.inl rfl) (aU (gQ.mono (by decide)) hr rfl (@aB _ _ _ _ _ _ (pv 0) aE)) (by rfl) (by first | exact .inl rfl | exact .inr rfl | assumption)) (@aA _ _ _ _ _ (@bL _ _ _ _ (aU (eA.mono (by decide)) hr rfl (@bJ _ _ _ _ _ _ _ _ (aN (aEq (K:=K) rfl rfl) rfl B.sum aJu (@bJ _ _ _ _ _ _ _ _ (aU (lV.mono (by decide)) hr rfl (@aB _ _ _ _ _ _ (pv 0) (@aB _ _ _ _ _ _ (pv 1) aE))) aE)) (@aB _ _ _ _ _ _ (pv 1) aE)))) aH))
theorem uQ:bC ["table","many"] ["table"] (aJ (top 23)):=⟨rfl,rfl,rfl,by decide +kernel,rfl,by decide +kernel,by decide +kernel⟩
def zR (K:aa)   : TS:=(aP (bW (tCB (jM K) (aC (aF 0) aO)) (aK 1)) (aP (eK (tCB (aGH K) (aC (dO [none,none,some 0] (kD (aC (aF 1) aO)) (aK 0) [] fun acc=>(tK (kD (aC (aF 0) aO)) (aK 1) (jV [] (dI (tOp (iX K) (tOp (bH K) (tOp (bH K) (aF 2) (aF 0)) (aF 1)) (tOp (bH K) (tOp (bH K) (aF 2) (aF 1)) (aF 0))) acc)))) aO))) aL))
theorem aCy (F:Fun K "is_even" "is_even" (top 23) f fd)(B:iC mg)      {sp:Sp}(len:∀ vs H Q E,sp vs H Q E->vs.length=1)
  (rd:∀ vs H Q E,sp vs H Q E->zR K   { nx:=fun _ H'=>Q .non H',rt:=Q } (bD ["table","many"] vs) H):FnOk P w K mg base CX0 1 f fd ["table"] sp:=by
 refine F.ok uQ len (fun cdv A outer s H vs Q E hr h=>⟨_,?_,rd vs H Q E h⟩)
 have nd:=uQ.nd
 exact (@aA _ _ _ _ _ (@aY _ _ 1 _ _ _ _ nd rfl (Or.inl rfl) (aN (aX (K:=K) rfl) rfl B.len cS (@aB _ _ _ _ _ _ (pv 0) aE)) (by rfl) (by first | exact .inl rfl | exact .inr rfl | assumption)) (@aA _ _ _ _ _ (@bL _ _ _ _ (aN (iG (K:=K) rfl rfl) rfl B.all uL (cL (cK (N':=["i","j","table"]) (ix:=[none,none,some 0]) rfl rfl rfl (cZ rfl B.range (@aB _ _ _ _ _ _ (pv 1) aE)) (fun _ _ _=>(aM (i:=0) (show (["i","j","table"]:List Str).Nodup from by decide +kernel) rfl (Or.inl rfl))) (fun _ _ _ => .nil) (fun _ _ _ _=>(aCG rfl rfl rfl (fun _ h=>by first | (cases h;rfl) | cases h) (cZ rfl B.range (@aB _ _ _ _ _ _ (pv 0) aE)) (aM (i:=1) (show (["i","j","table"]:List Str).Nodup from by decide +kernel) rfl (Or.inl rfl)) .nil (bS rfl (dL (fG (K:=K) rfl hr) (@bE _ _ _ _ _ _ _ (aQ (K:=K) rfl) (@bE _ _ _ _ _ _ _ (aQ (K:=K) rfl) (pv 2) (pv 0) (fun _ _=>rfl)) (pv 1) (fun _ _=>rfl)) (@bE _ _ _ _ _ _ _ (aQ (K:=K) rfl) (@bE _ _ _ _ _ _ _ (aQ (K:=K) rfl) (pv 2) (pv 1) (fun _ _=>rfl)) (pv 0) (fun _ _=>rfl)) (bK _)) rfl)))) aE))) aH))
theorem kF:bC ["table"] ["table"] (aJ (top 28)):=⟨rfl,rfl,rfl,by decide +kernel,rfl,by decide +kernel,by decide +kernel⟩
def lK (K:aa) (C_NotEven:Addr) (C_TooFew:Addr) (C_TooMany:Addr) (E:XK) (kW:Sp):TS:=(aP (fV (aAO (tB (bG kW [] E0 (aC (aF 0) aO)))) (aP (zV C_NotEven E) aL) aL) (aP (fV (bU (tOp yLt (tCB (jM K) (aC (aF 0) aO)) (tC (.int 3)))) (aP (zV C_TooFew E) aL) aL) (aP (fV (bU (tOp yGt (tCB (jM K) (aC (aF 0) aO)) (tC (.int 6)))) (aP (zV C_TooMany E) aL) aL) aL)))
theorem sJ (F:Fun K "refuse_unfit" "refuse_unfit" (top 28) f fd)(B:iC mg){tk_LEAST_PLACES:Tok}(G_LEAST_PLACES:mg "LEAST_PLACES" = some (.int 3 tk_LEAST_PLACES)){tk_MOST_PLACES:Tok}(G_MOST_PLACES:mg "MOST_PLACES" = some (.int 6 tk_MOST_PLACES)){C_NotEven:Addr}(GC_NotEven:mg "NotEven" = some (.ref C_NotEven)){C_TooFew:Addr}(GC_TooFew:mg "TooFew" = some (.ref C_TooFew)){C_TooMany:Addr}(GC_TooMany:mg "TooMany" = some (.ref C_TooMany))(XC_NotEven:jj K C_NotEven aFQ "ValueError.__new__" = true)(XC_TooFew:jj K C_TooFew aFQ "ValueError.__new__" = true)(XC_TooMany:jj K C_TooMany aFQ "ValueError.__new__" = true){kW:Sp}(tG:Def P w K mg base "is_even" 1 ["table"] kW)  {sp:Sp}(len:∀ vs H Q E,sp vs H Q E->vs.length=1)
  (rd:∀ vs H Q E,sp vs H Q E->lK K C_NotEven C_TooFew C_TooMany E kW { nx:=fun _ H'=>Q .non H',rt:=Q } (bD ["table"] vs) H):FnOk P w K mg base (tI P w) 2 f fd ["table"] sp:=by
 refine F.okX kF len (fun cdv A outer s H vs Q E hr h=>⟨_,?_,rd vs H Q E h⟩)
 have nd:=kF.nd
 exact (@aA _ _ _ _ _ (@eL _ _ _ _ _ _ _ _ (PT.nox (iF (eY (aU (tG.mono (by decide)) hr rfl (@aB _ _ _ _ _ _ (pv 0) aE))))) (@aA _ _ _ _ _ (sO (K:=K) rfl oQ rfl rfl GC_NotEven XC_NotEven) aH) aH) (@aA _ _ _ _ _ (@eL _ _ _ _ _ _ _ _ (PT.nox (bN mX (aN (aX (K:=K) rfl) rfl B.len cS (@aB _ _ _ _ _ _ (pv 0) aE)) (dW rfl G_LEAST_PLACES ⟨_,rfl⟩) (bK _))) (@aA _ _ _ _ _ (sO (K:=K) rfl oQ rfl rfl GC_TooFew XC_TooFew) aH) aH) (@aA _ _ _ _ _ (@eL _ _ _ _ _ _ _ _ (PT.nox (bN tX (aN (aX (K:=K) rfl) rfl B.len cS (@aB _ _ _ _ _ _ (pv 0) aE)) (dW rfl G_MOST_PLACES ⟨_,rfl⟩) (bK _))) (@aA _ _ _ _ _ (sO (K:=K) rfl oQ rfl rfl GC_TooMany XC_TooMany) aH) aH) aH)))
theorem pN:bC ["many"] ["many"] (aJ (top 29)):=⟨rfl,rfl,rfl,by decide +kernel,rfl,by decide +kernel,by decide +kernel⟩
def rZ (K:aa)   : TS:=(aP (eK (dO [none,none,some 0] (kD (aC (aF 0) aO)) (aK 0) [] fun acc=>(tK (aHx (aC (tOp (cM K) (aF 0) (tC (.int 1))) (aC (aF 2) aO))) (aK 1) (jV [] (dI (iN (aC (aF 0) (aC (aF 1) aO))) acc))))) aL)
theorem zI (F:Fun K "all_pairs" "all_pairs" (top 29) f fd)(B:iC mg)      {sp:Sp}(len:∀ vs H Q E,sp vs H Q E->vs.length=1)
  (rd:∀ vs H Q E,sp vs H Q E->rZ K   { nx:=fun _ H'=>Q .non H',rt:=Q } (bD ["many"] vs) H):FnOk P w K mg base CX0 1 f fd ["many"] sp:=by
 refine F.ok pN len (fun cdv A outer s H vs Q E hr h=>⟨_,?_,rd vs H Q E h⟩)
 have nd:=pN.nd
 exact (@aA _ _ _ _ _ (@bL _ _ _ _ (cK (N':=["i","j","many"]) (ix:=[none,none,some 0]) rfl rfl rfl (cZ rfl B.range (@aB _ _ _ _ _ _ (pv 0) aE)) (fun _ _ _=>(aM (i:=0) (show (["i","j","many"]:List Str).Nodup from by decide +kernel) rfl (Or.inl rfl))) (fun _ _ _ => .nil) (fun _ _ _ _=>(aCG rfl rfl rfl (fun _ h=>by first | (cases h;rfl) | cases h) (zX rfl B.range (@dU _ _ _ _ _ _ _ _ (@bI _ _ _ _ _ _ _ _ (bR (K:=K) rfl) (pv 0) aI) (@aB _ _ _ _ _ _ (pv 2) aE))) (aM (i:=1) (show (["i","j","many"]:List Str).Nodup from by decide +kernel) rfl (Or.inl rfl)) .nil (bS rfl (@cY _ _ _ _ _ (@aB _ _ _ _ _ _ (pv 0) (@aB _ _ _ _ _ _ (pv 1) aE))) rfl))))) aH)
theorem rB:bC ["many","sets","place"] ["many"] (aJ (top 30)):=⟨rfl,rfl,rfl,by decide +kernel,rfl,by decide +kernel,by decide +kernel⟩
def uO (K:aa)   : TS:=(aP (bW (lX (aC (iN aO) aO)) (aK 1)) (aP (tK (kD (aC (aF 0) aO)) (aK 2) (aP (bW (tOp (cM K) (aF 1) (dO [none,some 2] (lG K (aF 1)) (aK 0) [] fun acc=>(dI (tOp (cM K) (aF 0) (iN (aC (aF 1) aO))) acc))) (aK 1)) aL)) (aP (eK (tSl (wI K) (aF 1) (iA (tC (.int 1))) (iA (tUn aAf (tC (.int 1)))))) aL)))
theorem aAI (F:Fun K "all_sets" "all_sets" (top 30) f fd)(B:iC mg)      {sp:Sp}(len:∀ vs H Q E,sp vs H Q E->vs.length=1)
  (rd:∀ vs H Q E,sp vs H Q E->uO K   { nx:=fun _ H'=>Q .non H',rt:=Q } (bD ["many","sets","place"] vs) H):FnOk P w K mg base CX0 1 f fd ["many"] sp:=by
 refine F.ok rB len (fun cdv A outer s H vs Q E hr h=>⟨_,?_,rd vs H Q E h⟩)
 have nd:=rB.nd
 exact (@aA _ _ _ _ _ (@aY _ _ 1 _ _ _ _ nd rfl (Or.inl rfl) (@dR _ _ _ _ (@cU _ _ _ _ _ _ _ (@cY _ _ _ _ _ aE) aE)) (by rfl) (by first | exact .inl rfl | exact .inr rfl | assumption)) (@aA _ _ _ _ _ (gH ff rfl (cZ rfl B.range (@aB _ _ _ _ _ _ (pv 0) aE)) (aM (i:=2) nd rfl (Or.inr rfl)) (@aA _ _ _ _ _ (@aY _ _ 1 _ _ _ _ nd rfl (Or.inl rfl) (@bI _ _ _ _ _ _ _ _ (bR (K:=K) rfl) (pv 1) (cK (N':=["some","place"]) (ix:=[none,some 2]) rfl rfl rfl (cG (K:=K) rfl (pv 1)) (fun _ _ _=>(aM (i:=0) (show (["some","place"]:List Str).Nodup from by decide +kernel) rfl (Or.inl rfl))) (fun _ _ _ => .nil) (fun _ _ _ _=>(bS rfl (@bI _ _ _ _ _ _ _ _ (bR (K:=K) rfl) (pv 0) (@cY _ _ _ _ _ (@aB _ _ _ _ _ _ (pv 1) aE))) rfl)))) (by rfl) (by first | exact .inl rfl | exact .inr rfl | assumption)) aH)) (@aA _ _ _ _ _ (@bL _ _ _ _ (eO (qD (K:=K) rfl) (pv 1) (eU aI) (eU (lS gL aI)))) aH)))
theorem pC:bC ["some","i","j"] ["some","i","j"] (aJ (top 31)):=⟨rfl,rfl,rfl,by decide +kernel,rfl,by decide +kernel,by decide +kernel⟩
def sN (K:aa)   : TS:=(aP (eK (tOp (aBK K) (tOp (rIn K false) (aF 1) (aF 0)) (tOp (rIn K false) (aF 2) (aF 0)))) aL)
theorem yR (F:Fun K "does_part" "does_part" (top 31) f fd)(B:iC mg)      {sp:Sp}(len:∀ vs H Q E,sp vs H Q E->vs.length=3)
  (rd:∀ vs H Q E,sp vs H Q E->sN K   { nx:=fun _ H'=>Q .non H',rt:=Q } (bD ["some","i","j"] vs) H):FnOk P w K mg base CX0 1 f fd ["some","i","j"] sp:=by
 refine F.ok pC len (fun cdv A outer s H vs Q E hr h=>⟨_,?_,rd vs H Q E h⟩)
 have nd:=pC.nd
 exact (@aA _ _ _ _ _ (@bL _ _ _ _ (dL (nC (K:=K) rfl hr) (dL (aCL (K:=K) rfl) (pv 1) (pv 0) rfl) (dL (aCL (K:=K) rfl) (pv 2) (pv 0) rfl) (bK _))) aH)
theorem yA:bC ["table","pairs","steps","rows","held","bottom","tops","found"] ["table"] (aJ (top 32)):=⟨rfl,rfl,rfl,by decide +kernel,rfl,by decide +kernel,by decide +kernel⟩
def aBk (K:aa)  (E:XK) (dE:Sp) (qR:Sp) (fZ:Sp) (cB:Sp) (fQ:Sp) (hU:Sp) (bF:Sp):TS:=(aP (nP (bG bF [] E (aC (aF 0) aO))) (aP (bW (bG dE [] E0 (aC (tCB (jM K) (aC (aF 0) aO)) aO)) (aK 1)) (aP (bW (bG fQ [] E0 (aC (tCB (jM K) (aC (aF 0) aO)) aO)) (aK 2)) (aP (bW (bG fZ [] E0 (aC (aF 0) (aC (aF 1) (aC (aF 2) aO)))) (aK 3)) (aP (bW (dO [none,some 2] (kD (aC (tCB (jM K) (aC (aF 1) aO)) aO)) (aK 0) [] fun acc=>(dI (tOp (cM K) (tCB (jM K) (aC (aF 1) aO)) (aF 0)) acc)) (aK 4)) (aP (bW (bG qR [] E0 (aC (aF 3) (aC (aF 4) aO))) (aK 5)) (aP (bW (tSl (wI K) (tOp (bH K) (aF 3) (tUn aAf (tC (.int 1)))) (iA (tCB (jM K) (aC (aF 2) aO))) (iA (tUn aAf (tC (.int 1))))) (aK 6)) (aP (bW (dO [none,none,none,some 5] (aHA K (aC (aF 1) (aC (aF 6) aO))) (pE K 2 (cP (pE K 2 (cP (aK 0) (cP (aK 1) qC))) (cP (aK 2) qC))) [(bU (tOp yGt (aF 2) (tC (.int 0))))] fun acc=>(dI (iN (aC (aF 0) (aC (aF 1) (aC (bG cB [] E0 (aC (aF 2) (aC (aF 3) aO))) aO)))) acc)) (aK 7)) (aP (eK (iN (aC (bG cB [] E0 (aC (tOp (bH K) (tOp (bH K) (aF 3) (tUn aAf (tC (.int 1)))) (tUn aAf (tC (.int 1)))) (aC (aF 5) aO))) (aC (aF 7) (aC (bG hU [] E0 (aC (aF 2) (aC (aF 3) (aC (aF 4) (aC (aF 5) aO))))) aO))))) aL)))))))))
theorem aDv (F:Fun K "shares" "shares" (top 32) f fd)(B:iC mg)    {dE:Sp}(fO:Def P w K mg base "all_pairs" 1 ["many"] dE){qR:Sp}(aAW:Def P w K mg base "climb" 3 ["rows","held"] qR){fZ:Sp}(kG:Def P w K mg base "first_rows" 2 ["table","pairs","steps"] fZ){cB:Sp}(eA:Def P w K mg base "lowest" 2 ["top","bottom"] cB){fQ:Sp}(iZ:Def P w K mg base "price_steps" 2 ["many"] fQ){hU:Sp}(lW:Def P w K mg base "told_cuts" 3 ["steps","rows","held","bottom"] hU){bF:Sp}(cH:DefX P w K mg base "refuse_unfit" 2 ["table"] bF){sp:Sp}(len:∀ vs H Q E,sp vs H Q E->vs.length=1)
  (rd:∀ vs H Q E,sp vs H Q E->aBk K  E dE qR fZ cB fQ hU bF { nx:=fun _ H'=>Q .non H',rt:=Q } (bD ["table","pairs","steps","rows","held","bottom","tops","found"] vs) H):FnOk P w K mg base (tI P w) 4 f fd ["table"] sp:=by
 refine F.okX yA len (fun cdv A outer s H vs Q E hr h=>⟨_,?_,rd vs H Q E h⟩)
 have nd:=yA.nd
 exact (@aA _ _ _ _ _ (gO (wF (cH.mono (by decide)) hr rfl kR (@aB _ _ _ _ _ _ (pv 0) aE))) (@aA _ _ _ _ _ (PS.nox (@aY _ _ 1 _ _ _ _ nd rfl (Or.inl rfl) (aU (fO.mono (by decide)) hr rfl (@bJ _ _ _ _ _ _ _ _ (aN (aX (K:=K) rfl) rfl B.len cS (@aB _ _ _ _ _ _ (pv 0) aE)) aE)) (by rfl) (by first | exact .inl rfl | exact .inr rfl | assumption))) (@aA _ _ _ _ _ (PS.nox (@aY _ _ 2 _ _ _ _ nd rfl (Or.inr rfl) (aU (iZ.mono (by decide)) hr rfl (@bJ _ _ _ _ _ _ _ _ (aN (aX (K:=K) rfl) rfl B.len cS (@aB _ _ _ _ _ _ (pv 0) aE)) aE)) (by rfl) (by first | exact .inl rfl | exact .inr rfl | assumption))) (@aA _ _ _ _ _ (PS.nox (@aY _ _ 3 _ _ _ _ nd rfl (Or.inl rfl) (aU (kG.mono (by decide)) hr rfl (@aB _ _ _ _ _ _ (pv 0) (@aB _ _ _ _ _ _ (pv 1) (@aB _ _ _ _ _ _ (pv 2) aE)))) (by rfl) (by first | exact .inl rfl | exact .inr rfl | assumption))) (@aA _ _ _ _ _ (PS.nox (fK (i:=4) nd rfl (Or.inl rfl) (N':=["at","steps"]) (ix:=[none,some 2]) rfl rfl rfl (cZ rfl B.range (@bJ _ _ _ _ _ _ _ _ (aN (aX (K:=K) rfl) rfl B.len cS (@aB _ _ _ _ _ _ (pv 1) aE)) aE)) (fun _ _ _=>(aM (i:=0) (show (["at","steps"]:List Str).Nodup from by decide +kernel) rfl (Or.inl rfl))) (fun _ _ _ => .nil) (fun _ _ _ _=>(bS rfl (@bI _ _ _ _ _ _ _ _ (bR (K:=K) rfl) (aN (aX (K:=K) rfl) rfl B.len cS (@aB _ _ _ _ _ _ (pv 1) aE)) (pv 0)) rfl)))) (@aA _ _ _ _ _ (PS.nox (@aY _ _ 5 _ _ _ _ nd rfl (Or.inr rfl) (aU (aAW.mono (by decide)) hr rfl (@aB _ _ _ _ _ _ (pv 3) (@aB _ _ _ _ _ _ (pv 4) aE))) (by rfl) (by first | exact .inl rfl | exact .inr rfl | assumption))) (@aA _ _ _ _ _ (PS.nox (@aY _ _ 6 _ _ _ _ nd rfl (Or.inl rfl) (eO (qD (K:=K) rfl) (@bE _ _ _ _ _ _ _ (aQ (K:=K) rfl) (pv 3) (lS gL aI) (fun _ _=>rfl)) (eU (aN (aX (K:=K) rfl) rfl B.len cS (@aB _ _ _ _ _ _ (pv 2) aE))) (eU (lS gL aI))) (by rfl) (by first | exact .inl rfl | exact .inr rfl | assumption))) (@aA _ _ _ _ _ (PS.nox (fK (i:=7) nd rfl (Or.inl rfl) (N':=["i","j","top","bottom"]) (ix:=[none,none,none,some 5]) rfl rfl rfl (wW (K:=K) rfl rfl B.zip (@aB _ _ _ _ _ _ (pv 1) (@aB _ _ _ _ _ _ (pv 6) aE))) (fun _ _ _=>(cW (K:=K) rfl rfl (aR (cW (K:=K) rfl rfl (aR (aM (i:=0) (show (["i","j","top","bottom"]:List Str).Nodup from by decide +kernel) rfl (Or.inl rfl)) (aR (aM (i:=1) (show (["i","j","top","bottom"]:List Str).Nodup from by decide +kernel) rfl (Or.inl rfl)) cV))) (aR (aM (i:=2) (show (["i","j","top","bottom"]:List Str).Nodup from by decide +kernel) rfl (Or.inl rfl)) cV)))) (fun _ _ _=>(.cons (bN tX (pv 2) aI (bK _)) .nil)) (fun _ _ _ _=>(bS rfl (@cY _ _ _ _ _ (@aB _ _ _ _ _ _ (pv 0) (@aB _ _ _ _ _ _ (pv 1) (@bJ _ _ _ _ _ _ _ _ (aU (eA.mono (by decide)) hr rfl (@aB _ _ _ _ _ _ (pv 2) (@aB _ _ _ _ _ _ (pv 3) aE))) aE)))) rfl)))) (@aA _ _ _ _ _ (PS.nox (@bL _ _ _ _ (@cY _ _ _ _ _ (@bJ _ _ _ _ _ _ _ _ (aU (eA.mono (by decide)) hr rfl (@cQ _ _ _ _ _ _ _ (@bE _ _ _ _ _ _ _ (aQ (K:=K) rfl) (@bE _ _ _ _ _ _ _ (aQ (K:=K) rfl) (pv 3) (lS gL aI) (fun _ _=>rfl)) (lS gL aI) (fun _ _=>rfl)) (@aB _ _ _ _ _ _ (pv 5) aE))) (@aB _ _ _ _ _ _ (pv 7) (@bJ _ _ _ _ _ _ _ _ (aU (lW.mono (by decide)) hr rfl (@aB _ _ _ _ _ _ (pv 2) (@aB _ _ _ _ _ _ (pv 3) (@aB _ _ _ _ _ _ (pv 4) (@aB _ _ _ _ _ _ (pv 5) aE))))) aE)))))) aH)))))))))
theorem lE:bC ["many","sets"] ["many"] (aJ (top 33)):=⟨rfl,rfl,rfl,by decide +kernel,rfl,by decide +kernel,by decide +kernel⟩
def nG (K:aa)  (cI:Sp):TS:=(aP (bW (dO [none,some 0] (lG K (bG cI [] E0 (aC (aF 0) aO))) (aK 0) [(tOr (bU (tOp (iX K) (aF 0) (iN (aC (tC (.int 0)) aO)))) (aFR (bU (tOp (rIn K true) (tC (.int 0)) (aF 0))) (bU (tOp yLt (tCB (jM K) (aC (aF 0) aO)) (tOp pV (aF 1) (tC (.int 1)))))))] fun acc=>(dI (aF 0) acc)) (aK 1)) (aP (eK (tOp (cM K) (dO [none] (lG K (aF 1)) (aK 0) [] fun acc=>(dI (iN (aC (aF 0) (aC (tC (.int 1)) aO))) acc)) (dO [none] (lG K (aF 1)) (aK 0) [(bU (tOp (iX K) (tCB (jM K) (aC (aF 0) aO)) (tC (.int 1))))] fun acc=>(dI (iN (aC (aF 0) (aC (tUn aAf (tC (.int 1))) aO))) acc)))) aL))
theorem uD (F:Fun K "price_steps" "price_steps" (top 33) f fd)(B:iC mg)    {cI:Sp}(eB:Def P w K mg base "all_sets" 1 ["many"] cI)  {sp:Sp}(len:∀ vs H Q E,sp vs H Q E->vs.length=1)
  (rd:∀ vs H Q E,sp vs H Q E->nG K  cI { nx:=fun _ H'=>Q .non H',rt:=Q } (bD ["many","sets"] vs) H):FnOk P w K mg base CX0 2 f fd ["many"] sp:=by
 refine F.ok lE len (fun cdv A outer s H vs Q E hr h=>⟨_,?_,rd vs H Q E h⟩)
 have nd:=lE.nd
 exact (@aA _ _ _ _ _ (fK (i:=1) nd rfl (Or.inl rfl) (N':=["some","many"]) (ix:=[none,some 0]) rfl rfl rfl (cG (K:=K) rfl (aU (eB.mono (by decide)) hr rfl (@aB _ _ _ _ _ _ (pv 0) aE))) (fun _ _ _=>(aM (i:=0) (show (["some","many"]:List Str).Nodup from by decide +kernel) rfl (Or.inl rfl))) (fun _ _ _=>(.cons (PW.pt (mZ (bN (fG (K:=K) rfl hr) (pv 0) (@cY _ _ _ _ _ (@aV _ _ _ _ _ _ _ aI aE)) (bK _)) (jY (PW.pt (zE (bN (aDR (K:=K) rfl) aI (pv 0) rfl) (sR (bN mX (aN (aX (K:=K) rfl) rfl B.len cS (@aB _ _ _ _ _ _ (pv 0) aE)) (@bI _ _ _ _ _ _ _ _ mO (pv 1) aI) (bK _)))))))) .nil)) (fun _ _ _ _=>(bS rfl (pv 0) rfl))) (@aA _ _ _ _ _ (@bL _ _ _ _ (@bI _ _ _ _ _ _ _ _ (bR (K:=K) rfl) (cK (N':=["some"]) (ix:=[none]) rfl rfl rfl (cG (K:=K) rfl (pv 1)) (fun _ _ _=>(aM (i:=0) (show (["some"]:List Str).Nodup from by decide +kernel) rfl (Or.inl rfl))) (fun _ _ _ => .nil) (fun _ _ _ _=>(bS rfl (@cY _ _ _ _ _ (@aB _ _ _ _ _ _ (pv 0) (@aV _ _ _ _ _ _ _ aI aE))) rfl))) (cK (N':=["some"]) (ix:=[none]) rfl rfl rfl (cG (K:=K) rfl (pv 1)) (fun _ _ _=>(aM (i:=0) (show (["some"]:List Str).Nodup from by decide +kernel) rfl (Or.inl rfl))) (fun _ _ _=>(.cons (bN (fG (K:=K) rfl hr) (aN (aX (K:=K) rfl) rfl B.len cS (@aB _ _ _ _ _ _ (pv 0) aE)) aI (bK _)) .nil)) (fun _ _ _ _=>(bS rfl (@cY _ _ _ _ _ (@aB _ _ _ _ _ _ (pv 0) (@aFB _ _ _ _ _ _ _ (lS gL aI) aE))) rfl))))) aH))
theorem nO:bC ["table","pairs","steps","rows","i","j","taken"] ["table","pairs","steps"] (aJ (top 34)):=⟨rfl,rfl,rfl,by decide +kernel,rfl,by decide +kernel,by decide +kernel⟩
def oY (K:aa)  (bV:Sp):TS:=(aP (bW (lX aO) (aK 3)) (aP (tK (lG K (aF 1)) (pE K 2 (cP (aK 4) (cP (aK 5) qC))) (aP (bW (dO [none,none,some 4,some 5] (lG K (aF 2)) (pE K 2 (cP (aK 0) (cP (aK 1) qC))) [] fun acc=>(dI (tIf (tB (bG bV [] E0 (aC (aF 0) (aC (aF 2) (aC (aF 3) aO))))) (aF 1) (tC (.int 0))) acc)) (aK 6)) (aP (nP (tBM K "list" nY (aF 3) (aC (tOp (cM K) (tOp (cM K) (aF 6) (dO [none,some 4,some 5] (lG K (aF 1)) (aK 0) [] fun acc=>(dI (tIf (bU (tOp (iX K) (aF 0) (iN (aC (aF 1) (aC (aF 2) aO))))) (tC (.int 1)) (tC (.int 0))) acc))) (lX (aC (tOp (bH K) (tOp (bH K) (aF 0) (aF 4)) (aF 5)) aO))) aO))) aL))) (aP (eK (tOp (cM K) (aF 3) (lX (aC (tOp (cM K) (tOp (cM K) (dO [none,none] (lG K (aF 2)) (pE K 2 (cP (aK 0) (cP (aK 1) qC))) [] fun acc=>(dI (tOp fL (tUn aAf (tC (.int 2))) (aF 1)) acc)) (dO [none] (lG K (aF 1)) (aK 0) [] fun acc=>(dI (tC (.int 0)) acc))) (lX (aC (tC (.int 0)) aO))) aO)))) aL)))
theorem vW (F:Fun K "first_rows" "first_rows" (top 34) f fd)(B:iC mg)    {bV:Sp}(dN:Def P w K mg base "does_part" 1 ["some","i","j"] bV)  {sp:Sp}(len:∀ vs H Q E,sp vs H Q E->vs.length=3)
  (rd:∀ vs H Q E,sp vs H Q E->oY K  bV { nx:=fun _ H'=>Q .non H',rt:=Q } (bD ["table","pairs","steps","rows","i","j","taken"] vs) H):FnOk P w K mg base CX0 2 f fd ["table","pairs","steps"] sp:=by
 refine F.ok nO len (fun cdv A outer s H vs Q E hr h=>⟨_,?_,rd vs H Q E h⟩)
 have nd:=nO.nd
 exact (@aA _ _ _ _ _ (@aY _ _ 3 _ _ _ _ nd rfl (Or.inl rfl) (@dR _ _ _ _ aE) (by rfl) (by first | exact .inl rfl | exact .inr rfl | assumption)) (@aA _ _ _ _ _ (gH ff rfl (cG (K:=K) rfl (pv 1)) (cW (K:=K) rfl rfl (aR (aM (i:=4) nd rfl (Or.inr rfl)) (aR (aM (i:=5) nd rfl (Or.inr rfl)) cV))) (@aA _ _ _ _ _ (fK (i:=6) nd rfl (Or.inl rfl) (N':=["some","sign","i","j"]) (ix:=[none,none,some 4,some 5]) rfl rfl rfl (cG (K:=K) rfl (pv 2)) (fun _ _ _=>(cW (K:=K) rfl rfl (aR (aM (i:=0) (show (["some","sign","i","j"]:List Str).Nodup from by decide +kernel) rfl (Or.inl rfl)) (aR (aM (i:=1) (show (["some","sign","i","j"]:List Str).Nodup from by decide +kernel) rfl (Or.inl rfl)) cV)))) (fun _ _ _ => .nil) (fun _ _ _ _=>(bS rfl (aBd (eY (aU (dN.mono (by decide)) hr rfl (@aB _ _ _ _ _ _ (pv 0) (@aB _ _ _ _ _ _ (pv 2) (@aB _ _ _ _ _ _ (pv 3) aE))))) (pv 1) aI) rfl))) (@aA _ _ _ _ _ (gO (uM (K:=K) rfl i5 kn kq kC (pv 3) (@dU _ _ _ _ _ _ _ _ (@bI _ _ _ _ _ _ _ _ (bR (K:=K) rfl) (@bI _ _ _ _ _ _ _ _ (bR (K:=K) rfl) (pv 6) (cK (N':=["pair","i","j"]) (ix:=[none,some 4,some 5]) rfl rfl rfl (cG (K:=K) rfl (pv 1)) (fun _ _ _=>(aM (i:=0) (show (["pair","i","j"]:List Str).Nodup from by decide +kernel) rfl (Or.inl rfl))) (fun _ _ _ => .nil) (fun _ _ _ _=>(bS rfl (aBd (bN (fG (K:=K) rfl hr) (pv 0) (@cY _ _ _ _ _ (@aB _ _ _ _ _ _ (pv 1) (@aB _ _ _ _ _ _ (pv 2) aE))) (bK _)) aI aI) rfl)))) (@dR _ _ _ _ (@cQ _ _ _ _ _ _ _ (@bE _ _ _ _ _ _ _ (aQ (K:=K) rfl) (@bE _ _ _ _ _ _ _ (aQ (K:=K) rfl) (pv 0) (pv 4) (fun _ _=>rfl)) (pv 5) (fun _ _=>rfl)) aE))) aE))) aH))) (@aA _ _ _ _ _ (@bL _ _ _ _ (@bI _ _ _ _ _ _ _ _ (bR (K:=K) rfl) (pv 3) (@dR _ _ _ _ (@dU _ _ _ _ _ _ _ _ (@bI _ _ _ _ _ _ _ _ (bR (K:=K) rfl) (@bI _ _ _ _ _ _ _ _ (bR (K:=K) rfl) (cK (N':=["some","sign"]) (ix:=[none,none]) rfl rfl rfl (cG (K:=K) rfl (pv 2)) (fun _ _ _=>(cW (K:=K) rfl rfl (aR (aM (i:=0) (show (["some","sign"]:List Str).Nodup from by decide +kernel) rfl (Or.inl rfl)) (aR (aM (i:=1) (show (["some","sign"]:List Str).Nodup from by decide +kernel) rfl (Or.inl rfl)) cV)))) (fun _ _ _ => .nil) (fun _ _ _ _=>(bS rfl (@bI _ _ _ _ _ _ _ _ dB (lS gL aI) (pv 1)) rfl))) (cK (N':=["pair"]) (ix:=[none]) rfl rfl rfl (cG (K:=K) rfl (pv 1)) (fun _ _ _=>(aM (i:=0) (show (["pair"]:List Str).Nodup from by decide +kernel) rfl (Or.inl rfl))) (fun _ _ _ => .nil) (fun _ _ _ _=>(bS rfl aI rfl)))) (@dR _ _ _ _ (@aV _ _ _ _ _ _ _ aI aE))) aE)))) aH)))
theorem aBi:bC ["rows","held","bottom","column","at"] ["rows","held"] (aJ (top 35)):=⟨rfl,rfl,rfl,by decide +kernel,rfl,by decide +kernel,by decide +kernel⟩
def aCZ (K:aa)  (dQ:Sp) (eZ:Sp) (xK:Sp):TS:=(aP (bW (tC (.int 1)) (aK 2)) (aP (bW (bG dQ [] E0 (aC (aF 0) aO)) (aK 3)) (aP (aDm (bU (tOp aAE (aF 3) (tC .non))) (aP (bW (bG eZ [] E0 (aC (aF 0) (aC (aF 1) (aC (aF 3) aO)))) (aK 4)) (aP (nP (bG xK [] E0 (aC (aF 0) (aC (aF 4) (aC (aF 3) (aC (aF 2) aO)))))) (aP (bW (aF 3) (oB (aF 1) (aF 4) fH)) (aP (bW (tOp (bH K) (tOp (bH K) (aF 0) (aF 4)) (aF 3)) (aK 2)) (aP (bW (bG dQ [] E0 (aC (aF 0) aO)) (aK 3)) aL)))))) (aP (eK (aF 2)) aL))))
theorem aFg (F:Fun K "climb" "climb" (top 35) f fd)(B:iC mg)    {dQ:Sp}(fA:Def P w K mg base "rising_column" 1 ["rows"] dQ){eZ:Sp}(iD:Def P w K mg base "tightest_row" 2 ["rows","held","column"] eZ){xK:Sp}(aEv:Def P w K mg base "turn" 1 ["rows","at","column","bottom"] xK)  {sp:Sp}(len:∀ vs H Q E,sp vs H Q E->vs.length=2)
  (rd:∀ vs H Q E,sp vs H Q E->aCZ K  dQ eZ xK { nx:=fun _ H'=>Q .non H',rt:=Q } (bD ["rows","held","bottom","column","at"] vs) H):FnOk P w K mg base CX0 3 f fd ["rows","held"] sp:=by
 refine F.ok aBi len (fun cdv A outer s H vs Q E hr h=>⟨_,?_,rd vs H Q E h⟩)
 have nd:=aBi.nd
 exact (@aA _ _ _ _ _ (@aY _ _ 2 _ _ _ _ nd rfl (Or.inl rfl) aI (by rfl) (by first | exact .inl rfl | exact .inr rfl | assumption)) (@aA _ _ _ _ _ (@aY _ _ 3 _ _ _ _ nd rfl (Or.inl rfl) (aU (fA.mono (by decide)) hr rfl (@aB _ _ _ _ _ _ (pv 0) aE)) (by rfl) (by first | exact .inl rfl | exact .inr rfl | assumption)) (@aA _ _ _ _ _ (aBN ff (bN aDt (pv 3) rC (bK _)) (@aA _ _ _ _ _ (@aY _ _ 4 _ _ _ _ nd rfl (Or.inl rfl) (aU (iD.mono (by decide)) hr rfl (@aB _ _ _ _ _ _ (pv 0) (@aB _ _ _ _ _ _ (pv 1) (@aB _ _ _ _ _ _ (pv 3) aE)))) (by rfl) (by first | exact .inl rfl | exact .inr rfl | assumption)) (@aA _ _ _ _ _ (gO (aU (aEv.mono (by decide)) hr rfl (@aB _ _ _ _ _ _ (pv 0) (@aB _ _ _ _ _ _ (pv 4) (@aB _ _ _ _ _ _ (pv 3) (@aB _ _ _ _ _ _ (pv 2) aE)))))) (@aA _ _ _ _ _ (gY (pv 3) (mH (pv 1) (pv 4) fY)) (@aA _ _ _ _ _ (@aY _ _ 2 _ _ _ _ nd rfl (Or.inl rfl) (@bE _ _ _ _ _ _ _ (aQ (K:=K) rfl) (@bE _ _ _ _ _ _ _ (aQ (K:=K) rfl) (pv 0) (pv 4) (fun _ _=>rfl)) (pv 3) (fun _ _=>rfl)) (by rfl) (by first | exact .inl rfl | exact .inr rfl | assumption)) (@aA _ _ _ _ _ (@aY _ _ 3 _ _ _ _ nd rfl (Or.inl rfl) (aU (fA.mono (by decide)) hr rfl (@aB _ _ _ _ _ _ (pv 0) aE)) (by rfl) (by first | exact .inl rfl | exact .inr rfl | assumption)) aH)))))) (@aA _ _ _ _ _ (@bL _ _ _ _ (pv 2)) aH))))
theorem jE:bC ["rows","column","turned"] ["rows"] (aJ (top 36)):=⟨rfl,rfl,rfl,by decide +kernel,rfl,by decide +kernel,by decide +kernel⟩
def jW (K:aa)   : TS:=(aP (tK (aFD K (aC (tSl (wI K) (tOp (bH K) (aF 0) (tUn aAf (tC (.int 1)))) dX (iA (tUn aAf (tC (.int 1))))) aO)) (pE K 2 (cP (aK 1) (cP (aK 2) qC))) (aP (fV (bU (tOp yLt (aF 2) (tC (.int 0)))) (aP (eK (aF 1)) aL) aL) aL)) (aP (eK (tC .non)) aL))
theorem pS (F:Fun K "rising_column" "rising_column" (top 36) f fd)(B:iC mg)      {sp:Sp}(len:∀ vs H Q E,sp vs H Q E->vs.length=1)
  (rd:∀ vs H Q E,sp vs H Q E->jW K   { nx:=fun _ H'=>Q .non H',rt:=Q } (bD ["rows","column","turned"] vs) H):FnOk P w K mg base CX0 1 f fd ["rows"] sp:=by
 refine F.ok jE len (fun cdv A outer s H vs Q E hr h=>⟨_,?_,rd vs H Q E h⟩)
 have nd:=jE.nd
 exact (@aA _ _ _ _ _ (gH ff rfl (aBG (K:=K) rfl rfl B.enumerate (@cQ _ _ _ _ _ _ _ (eO (qD (K:=K) rfl) (@bE _ _ _ _ _ _ _ (aQ (K:=K) rfl) (pv 0) (lS gL aI) (fun _ _=>rfl)) hZ (eU (lS gL aI))) aE)) (cW (K:=K) rfl rfl (aR (aM (i:=1) nd rfl (Or.inl rfl)) (aR (aM (i:=2) nd rfl (Or.inl rfl)) cV))) (@aA _ _ _ _ _ (@eL _ _ _ _ _ _ _ _ (bN mX (pv 2) aI (bK _)) (@aA _ _ _ _ _ (@bL _ _ _ _ (pv 1)) aH) aH) aH)) (@aA _ _ _ _ _ (@bL _ _ _ _ rC) aH))
theorem jR:bC ["rows","held","column","best","at","row"] ["rows","held","column"] (aJ (top 37)):=⟨rfl,rfl,rfl,by decide +kernel,rfl,by decide +kernel,by decide +kernel⟩
def lL (K:aa)  (gA:Sp):TS:=(aP (bW (tC .non) (aK 3)) (aP (tK (aFD K (aC (tSl (wI K) (aF 0) dX (iA (tUn aAf (tC (.int 1))))) aO)) (pE K 2 (cP (aK 4) (cP (aK 5) qC))) (aP (fV (aFR (bU (tOp yGt (tOp (bH K) (aF 5) (aF 2)) (tC (.int 0)))) (tOr (bU (tOp aJW (aF 3) (tC .non))) (tB (bG gA [] E0 (aC (aF 0) (aC (aF 1) (aC (aF 2) (aC (aF 4) (aC (aF 3) aO))))))))) (aP (bW (aF 4) (aK 3)) aL) aL) aL)) (aP (eK (aF 3)) aL)))
theorem sZ (F:Fun K "tightest_row" "tightest_row" (top 37) f fd)(B:iC mg)    {gA:Sp}(kH:Def P w K mg base "is_tighter" 1 ["rows","held","column","at","other"] gA)  {sp:Sp}(len:∀ vs H Q E,sp vs H Q E->vs.length=3)
  (rd:∀ vs H Q E,sp vs H Q E->lL K  gA { nx:=fun _ H'=>Q .non H',rt:=Q } (bD ["rows","held","column","best","at","row"] vs) H):FnOk P w K mg base CX0 2 f fd ["rows","held","column"] sp:=by
 refine F.ok jR len (fun cdv A outer s H vs Q E hr h=>⟨_,?_,rd vs H Q E h⟩)
 have nd:=jR.nd
 exact (@aA _ _ _ _ _ (@aY _ _ 3 _ _ _ _ nd rfl (Or.inl rfl) rC (by rfl) (by first | exact .inl rfl | exact .inr rfl | assumption)) (@aA _ _ _ _ _ (gH ff rfl (aBG (K:=K) rfl rfl B.enumerate (@cQ _ _ _ _ _ _ _ (eO (qD (K:=K) rfl) (pv 0) hZ (eU (lS gL aI))) aE)) (cW (K:=K) rfl rfl (aR (aM (i:=4) nd rfl (Or.inl rfl)) (aR (aM (i:=5) nd rfl (Or.inl rfl)) cV))) (@aA _ _ _ _ _ (@eL _ _ _ _ _ _ _ _ (PW.pt (zE (bN tX (@bE _ _ _ _ _ _ _ (aQ (K:=K) rfl) (pv 5) (pv 2) (fun _ _=>rfl)) aI (bK _)) (sR (PW.pt (mZ (bN aFZ (pv 3) rC (bK _)) (jY (eY (aU (kH.mono (by decide)) hr rfl (@aB _ _ _ _ _ _ (pv 0) (@aB _ _ _ _ _ _ (pv 1) (@aB _ _ _ _ _ _ (pv 2) (@aB _ _ _ _ _ _ (pv 4) (@aB _ _ _ _ _ _ (pv 3) aE))))))))))))) (@aA _ _ _ _ _ (@aY _ _ 3 _ _ _ _ nd rfl (Or.inl rfl) (pv 4) (by rfl) (by first | exact .inl rfl | exact .inr rfl | assumption)) aH) aH) aH)) (@aA _ _ _ _ _ (@bL _ _ _ _ (pv 3)) aH)))
theorem nD:bC ["rows","held","column","at","other","one_room","other_room"] ["rows","held","column","at","other"] (aJ (top 38)):=⟨rfl,rfl,rfl,by decide +kernel,rfl,by decide +kernel,by decide +kernel⟩
def pQ (K:aa)   : TS:=(aP (bW (tOp fL (tOp (bH K) (tOp (bH K) (aF 0) (aF 3)) (tUn aAf (tC (.int 1)))) (tOp (bH K) (tOp (bH K) (aF 0) (aF 4)) (aF 2))) (aK 5)) (aP (bW (tOp fL (tOp (bH K) (tOp (bH K) (aF 0) (aF 4)) (tUn aAf (tC (.int 1)))) (tOp (bH K) (tOp (bH K) (aF 0) (aF 3)) (aF 2))) (aK 6)) (aP (eK (aKu (tOp yLt (aF 5) (aF 6)) (zC (tOp (iX K) (aF 5) (aF 6)) (tOp yLt (tOp (bH K) (aF 1) (aF 3)) (tOp (bH K) (aF 1) (aF 4)))))) aL)))
theorem wQ (F:Fun K "is_tighter" "is_tighter" (top 38) f fd)(B:iC mg)      {sp:Sp}(len:∀ vs H Q E,sp vs H Q E->vs.length=5)
  (rd:∀ vs H Q E,sp vs H Q E->pQ K   { nx:=fun _ H'=>Q .non H',rt:=Q } (bD ["rows","held","column","at","other","one_room","other_room"] vs) H):FnOk P w K mg base CX0 1 f fd ["rows","held","column","at","other"] sp:=by
 refine F.ok nD len (fun cdv A outer s H vs Q E hr h=>⟨_,?_,rd vs H Q E h⟩)
 have nd:=nD.nd
 exact (@aA _ _ _ _ _ (@aY _ _ 5 _ _ _ _ nd rfl (Or.inl rfl) (@bI _ _ _ _ _ _ _ _ dB (@bE _ _ _ _ _ _ _ (aQ (K:=K) rfl) (@bE _ _ _ _ _ _ _ (aQ (K:=K) rfl) (pv 0) (pv 3) (fun _ _=>rfl)) (lS gL aI) (fun _ _=>rfl)) (@bE _ _ _ _ _ _ _ (aQ (K:=K) rfl) (@bE _ _ _ _ _ _ _ (aQ (K:=K) rfl) (pv 0) (pv 4) (fun _ _=>rfl)) (pv 2) (fun _ _=>rfl))) (by rfl) (by first | exact .inl rfl | exact .inr rfl | assumption)) (@aA _ _ _ _ _ (@aY _ _ 6 _ _ _ _ nd rfl (Or.inl rfl) (@bI _ _ _ _ _ _ _ _ dB (@bE _ _ _ _ _ _ _ (aQ (K:=K) rfl) (@bE _ _ _ _ _ _ _ (aQ (K:=K) rfl) (pv 0) (pv 4) (fun _ _=>rfl)) (lS gL aI) (fun _ _=>rfl)) (@bE _ _ _ _ _ _ _ (aQ (K:=K) rfl) (@bE _ _ _ _ _ _ _ (aQ (K:=K) rfl) (pv 0) (pv 3) (fun _ _=>rfl)) (pv 2) (fun _ _=>rfl))) (by rfl) (by first | exact .inl rfl | exact .inr rfl | assumption)) (@aA _ _ _ _ _ (@bL _ _ _ _ (aJp (dL mX (pv 5) (pv 6) (bK _)) (pH (rT (dL (fG (K:=K) rfl hr) (pv 5) (pv 6) (bK _)) (pH (dL mX (@bE _ _ _ _ _ _ _ (aQ (K:=K) rfl) (pv 1) (pv 3) (fun _ _=>rfl)) (@bE _ _ _ _ _ _ _ (aQ (K:=K) rfl) (pv 1) (pv 4) (fun _ _=>rfl)) (bK _))))))) aH)))
theorem aDF:bC ["rows","at","column","bottom","pivot","other","factor"] ["rows","at","column","bottom"] (aJ (top 39)):=⟨rfl,rfl,rfl,by decide +kernel,rfl,by decide +kernel,by decide +kernel⟩
def aFX (K:aa)   : TS:=(aP (bW (tOp (bH K) (aF 0) (aF 1)) (aK 4)) (aP (tK (kD (aC (tCB (jM K) (aC (aF 0) aO)) aO)) (aK 5) (aP (fV (bU (tOp (aBK K) (aF 5) (aF 1))) (aP (bW (tOp (bH K) (tOp (bH K) (aF 0) (aF 5)) (aF 2)) (aK 6)) (aP (bW (dO [none,none,some 4,some 2,some 6,some 3] (aHA K (aC (tOp (bH K) (aF 0) (aF 5)) (aC (aF 4) aO))) (pE K 2 (cP (aK 0) (cP (aK 1) qC))) [] fun acc=>(dI (tOp vL (tOp pV (tOp fL (aF 0) (tOp (bH K) (aF 2) (aF 3))) (tOp fL (aF 4) (aF 1))) (aF 5)) acc)) (oB (aF 0) (aF 5) fH)) aL)) aL) aL)) aL))
theorem aGO (F:Fun K "turn" "turn" (top 39) f fd)(B:iC mg)      {sp:Sp}(len:∀ vs H Q E,sp vs H Q E->vs.length=4)
  (rd:∀ vs H Q E,sp vs H Q E->aFX K   { nx:=fun _ H'=>Q .non H',rt:=Q } (bD ["rows","at","column","bottom","pivot","other","factor"] vs) H):FnOk P w K mg base CX0 1 f fd ["rows","at","column","bottom"] sp:=by
 refine F.ok aDF len (fun cdv A outer s H vs Q E hr h=>⟨_,?_,rd vs H Q E h⟩)
 have nd:=aDF.nd
 exact (@aA _ _ _ _ _ (@aY _ _ 4 _ _ _ _ nd rfl (Or.inr rfl) (@bE _ _ _ _ _ _ _ (aQ (K:=K) rfl) (pv 0) (pv 1) (fun _ _=>rfl)) (by rfl) (by first | exact .inl rfl | exact .inr rfl | assumption)) (@aA _ _ _ _ _ (gH ff rfl (cZ rfl B.range (@bJ _ _ _ _ _ _ _ _ (aN (aX (K:=K) rfl) rfl B.len cS (@aB _ _ _ _ _ _ (pv 0) aE)) aE)) (aM (i:=5) nd rfl (Or.inl rfl)) (@aA _ _ _ _ _ (@eL _ _ _ _ _ _ _ _ (bN (nC (K:=K) rfl hr) (pv 5) (pv 1) (bK _)) (@aA _ _ _ _ _ (@aY _ _ 6 _ _ _ _ nd rfl (Or.inr rfl) (@bE _ _ _ _ _ _ _ (aQ (K:=K) rfl) (@bE _ _ _ _ _ _ _ (aQ (K:=K) rfl) (pv 0) (pv 5) (fun _ _=>rfl)) (pv 2) (fun _ _=>rfl)) (by rfl) (by first | exact .inl rfl | exact .inr rfl | assumption)) (@aA _ _ _ _ _ (gY (cK (N':=["part","own","pivot","column","factor","bottom"]) (ix:=[none,none,some 4,some 2,some 6,some 3]) rfl rfl rfl (wW (K:=K) rfl rfl B.zip (@cQ _ _ _ _ _ _ _ (@bE _ _ _ _ _ _ _ (aQ (K:=K) rfl) (pv 0) (pv 5) (fun _ _=>rfl)) (@aB _ _ _ _ _ _ (pv 4) aE))) (fun _ _ _=>(cW (K:=K) rfl rfl (aR (aM (i:=0) (show (["part","own","pivot","column","factor","bottom"]:List Str).Nodup from by decide +kernel) rfl (Or.inl rfl)) (aR (aM (i:=1) (show (["part","own","pivot","column","factor","bottom"]:List Str).Nodup from by decide +kernel) rfl (Or.inl rfl)) cV)))) (fun _ _ _ => .nil) (fun _ _ _ _=>(bS rfl (@bI _ _ _ _ _ _ _ _ kS (@bI _ _ _ _ _ _ _ _ mO (@bI _ _ _ _ _ _ _ _ dB (pv 0) (@bE _ _ _ _ _ _ _ (aQ (K:=K) rfl) (pv 2) (pv 3) (fun _ _=>rfl))) (@bI _ _ _ _ _ _ _ _ dB (pv 4) (pv 1))) (pv 5)) rfl))) (mH (pv 0) (pv 5) fY)) aH)) aH) aH)) aH))
theorem pG:bC ["steps","rows","held","bottom","cuts","row","column","some","sign"] ["steps","rows","held","bottom"] (aJ (top 40)):=⟨rfl,rfl,rfl,by decide +kernel,rfl,by decide +kernel,by decide +kernel⟩
def rY (K:aa)  (cB:Sp):TS:=(aP (bW (lX aO) (aK 4)) (aP (tK (aHA K (aC (aF 1) (aC (aF 2) aO))) (pE K 2 (cP (aK 5) (cP (aK 6) qC))) (aP (fV (aFR (bU (tOp yLt (aF 6) (tCB (jM K) (aC (aF 0) aO)))) (bU (tOp (aBK K) (tOp (bH K) (aF 5) (tUn aAf (tC (.int 1)))) (tC (.int 0))))) (aP (bW (tOp (bH K) (aF 0) (aF 6)) (pE K 2 (cP (aK 7) (cP (aK 8) qC)))) (aP (nP (tBM K "list" nY (aF 4) (aC (iN (aC (aF 7) (aC (bG cB [] E0 (aC (tOp fL (aF 8) (tOp (bH K) (aF 5) (tUn aAf (tC (.int 1))))) (aC (aF 3) aO))) aO))) aO))) aL)) aL) aL)) (aP (eK (tCB (aAF K) (aC (aF 4) aO))) aL)))
theorem zJ (F:Fun K "told_cuts" "told_cuts" (top 40) f fd)(B:iC mg)    {cB:Sp}(eA:Def P w K mg base "lowest" 2 ["top","bottom"] cB)  {sp:Sp}(len:∀ vs H Q E,sp vs H Q E->vs.length=4)
  (rd:∀ vs H Q E,sp vs H Q E->rY K  cB { nx:=fun _ H'=>Q .non H',rt:=Q } (bD ["steps","rows","held","bottom","cuts","row","column","some","sign"] vs) H):FnOk P w K mg base CX0 3 f fd ["steps","rows","held","bottom"] sp:=by
 refine F.ok pG len (fun cdv A outer s H vs Q E hr h=>⟨_,?_,rd vs H Q E h⟩)
 have nd:=pG.nd
 exact (@aA _ _ _ _ _ (@aY _ _ 4 _ _ _ _ nd rfl (Or.inl rfl) (@dR _ _ _ _ aE) (by rfl) (by first | exact .inl rfl | exact .inr rfl | assumption)) (@aA _ _ _ _ _ (gH ff rfl (wW (K:=K) rfl rfl B.zip (@aB _ _ _ _ _ _ (pv 1) (@aB _ _ _ _ _ _ (pv 2) aE))) (cW (K:=K) rfl rfl (aR (aM (i:=5) nd rfl (Or.inl rfl)) (aR (aM (i:=6) nd rfl (Or.inl rfl)) cV))) (@aA _ _ _ _ _ (@eL _ _ _ _ _ _ _ _ (PW.pt (zE (bN mX (pv 6) (aN (aX (K:=K) rfl) rfl B.len cS (@aB _ _ _ _ _ _ (pv 0) aE)) (bK _)) (sR (bN (nC (K:=K) rfl hr) (@bE _ _ _ _ _ _ _ (aQ (K:=K) rfl) (pv 5) (lS gL aI) (fun _ _=>rfl)) aI (bK _))))) (@aA _ _ _ _ _ (gY (@bE _ _ _ _ _ _ _ (aQ (K:=K) rfl) (pv 0) (pv 6) (fun _ _=>rfl)) (cW (K:=K) rfl rfl (aR (aM (i:=7) nd rfl (Or.inl rfl)) (aR (aM (i:=8) nd rfl (Or.inl rfl)) cV)))) (@aA _ _ _ _ _ (gO (uM (K:=K) rfl i5 kn kq kC (pv 4) (@cU _ _ _ _ _ _ _ (@cY _ _ _ _ _ (@aB _ _ _ _ _ _ (pv 7) (@bJ _ _ _ _ _ _ _ _ (aU (eA.mono (by decide)) hr rfl (@dU _ _ _ _ _ _ _ _ (@bI _ _ _ _ _ _ _ _ dB (pv 8) (@bE _ _ _ _ _ _ _ (aQ (K:=K) rfl) (pv 5) (lS gL aI) (fun _ _=>rfl))) (@aB _ _ _ _ _ _ (pv 3) aE))) aE))) aE))) aH)) aH) aH)) (@aA _ _ _ _ _ (@bL _ _ _ _ (aN (xS (K:=K) rfl hr) rfl B.sorted xW (@aB _ _ _ _ _ _ (pv 4) aE))) aH)))
theorem nE:bC ["table","some","worth","many"] ["table","some","worth"] (aJ (top 41)):=⟨rfl,rfl,rfl,by decide +kernel,rfl,by decide +kernel,by decide +kernel⟩
def pB (K:aa) (C_TWO:Addr) (E:XK) (cI:Sp) (eD:Sp) (eG:Sp) (jA:Sp) (gR:Sp) (gB:Sp) (cC:Sp) (bF:Sp):TS:=(aP (nP (bG bF [] E (aC (aF 0) aO))) (aP (bW (tCB (jM K) (aC (aF 0) aO)) (aK 3)) (aP (fV (tOr (aAO (tB (tCB (aGH K) (aC (dO [none,some 3] (lG K (aF 1)) (aK 0) [] fun acc=>(dI (bG jA [] E0 (aC (aF 1) (aC (aF 0) aO))) acc)) aO)))) (aAO (tB (bG eD [] E0 (aC (dO [none] (lG K (aF 1)) (aK 0) [] fun acc=>(dI (tSl (wI K) (aF 0) dX (iA (tC (.int 2)))) acc)) aO))))) (aP (eK (tC (.bl false))) aL) aL) (aP (fV (aAO (tB (tCB (aGH K) (aC (dO [none,some 1] (kD (aC (aF 3) aO)) (aK 0) [] fun acc=>(dI (tOp (iX K) (bG gR [] E0 (aC (aF 1) (aC (iN (aC (aF 0) aO)) aO))) (tC (.ref C_TWO))) acc)) aO)))) (aP (eK (tC (.bl false))) aL) aL) (aP (fV (tB (tCB (aKV K) (aC (dO [none,some 1] (lG K (bG cI [] E0 (aC (aF 3) aO))) (aK 0) [] fun acc=>(dI (bG eG [] E0 (aC (bG gR [] E0 (aC (aF 1) (aC (aF 0) aO))) (aC (tC (.ref C_TWO)) aO))) acc)) aO))) (aP (eK (tC (.bl false))) aL) aL) (aP (eK (tOp (iX K) (bG cC [] E0 (aC (dO [none,none,none,some 0] (lG K (aF 1)) (pE K 3 (cP (aK 0) (cP (aK 1) (cP (aK 2) qC)))) [] fun acc=>(dI (bG gB [] E0 (aC (aF 2) (aC (iN (aC (tOp (bH K) (tOp (bH K) (aF 3) (aF 0)) (aF 1)) (aC (tC (.int 1)) aO))) aO))) acc)) aO)) (aF 2))) aL))))))
theorem vZ (F:Fun K "are_shares" "are_shares" (top 41) f fd)(B:iC mg)  {C_TWO:Addr}(GC_TWO:mg "TWO" = some (.ref C_TWO))  (GA:mg "any" = none){cI:Sp}(eB:Def P w K mg base "all_sets" 1 ["many"] cI){eD:Sp}(iP:Def P w K mg base "do_rise" 1 ["some"] eD){eG:Sp}(iQ:Def P w K mg base "is_less" 1 ["one","other"] eG){jA:Sp}(oT:Def P w K mg base "is_share" 4 ["many","thing"] jA){gR:Sp}(kX:Def P w K mg base "over_cut" 4 ["some","cut"] gR){gB:Sp}(oU:Def P w K mg base "times" 3 ["one","other"] gB){cC:Sp}(eS:Def P w K mg base "total" 3 ["some"] cC){bF:Sp}(cH:DefX P w K mg base "refuse_unfit" 2 ["table"] bF){sp:Sp}(len:∀ vs H Q E,sp vs H Q E->vs.length=3)
  (rd:∀ vs H Q E,sp vs H Q E->pB K C_TWO E cI eD eG jA gR gB cC bF { nx:=fun _ H'=>Q .non H',rt:=Q } (bD ["table","some","worth","many"] vs) H):FnOk P w K mg base (tI P w) 5 f fd ["table","some","worth"] sp:=by
 refine F.okX nE len (fun cdv A outer s H vs Q E hr h=>⟨_,?_,rd vs H Q E h⟩)
 have nd:=nE.nd
 exact (@aA _ _ _ _ _ (gO (wF (cH.mono (by decide)) hr rfl kR (@aB _ _ _ _ _ _ (pv 0) aE))) (@aA _ _ _ _ _ (PS.nox (@aY _ _ 3 _ _ _ _ nd rfl (Or.inr rfl) (aN (aX (K:=K) rfl) rfl B.len cS (@aB _ _ _ _ _ _ (pv 0) aE)) (by rfl) (by first | exact .inl rfl | exact .inr rfl | assumption))) (@aA _ _ _ _ _ (PS.nox (@eL _ _ _ _ _ _ _ _ (PW.pt (mZ (iF (eY (aN (iG (K:=K) rfl rfl) rfl B.all uL (cL (cK (N':=["thing","many"]) (ix:=[none,some 3]) rfl rfl rfl (cG (K:=K) rfl (pv 1)) (fun _ _ _=>(aM (i:=0) (show (["thing","many"]:List Str).Nodup from by decide +kernel) rfl (Or.inl rfl))) (fun _ _ _ => .nil) (fun _ _ _ _=>(bS rfl (aU (oT.mono (by decide)) hr rfl (@aB _ _ _ _ _ _ (pv 1) (@aB _ _ _ _ _ _ (pv 0) aE))) rfl))) aE)))) (jY (iF (eY (aU (iP.mono (by decide)) hr rfl (cL (cK (N':=["thing"]) (ix:=[none]) rfl rfl rfl (cG (K:=K) rfl (pv 1)) (fun _ _ _=>(aM (i:=0) (show (["thing"]:List Str).Nodup from by decide +kernel) rfl (Or.inl rfl))) (fun _ _ _ => .nil) (fun _ _ _ _=>(bS rfl (eO (qD (K:=K) rfl) (pv 0) hZ (eU aI)) rfl))) aE))))))) (@aA _ _ _ _ _ (@bL _ _ _ _ mI) aH) aH)) (@aA _ _ _ _ _ (PS.nox (@eL _ _ _ _ _ _ _ _ (iF (eY (aN (iG (K:=K) rfl rfl) rfl B.all uL (cL (cK (N':=["place","some"]) (ix:=[none,some 1]) rfl rfl rfl (cZ rfl B.range (@aB _ _ _ _ _ _ (pv 3) aE)) (fun _ _ _=>(aM (i:=0) (show (["place","some"]:List Str).Nodup from by decide +kernel) rfl (Or.inl rfl))) (fun _ _ _ => .nil) (fun _ _ _ _=>(bS rfl (dL (fG (K:=K) rfl hr) (aU (kX.mono (by decide)) hr rfl (@aB _ _ _ _ _ _ (pv 1) (@cU _ _ _ _ _ _ _ (@cY _ _ _ _ _ (@aB _ _ _ _ _ _ (pv 0) aE)) aE))) (dW (v := .ref C_TWO) rfl GC_TWO rfl) (bK _)) rfl))) aE)))) (@aA _ _ _ _ _ (@bL _ _ _ _ mI) aH) aH)) (@aA _ _ _ _ _ (PS.nox (@eL _ _ _ _ _ _ _ _ (eY (aN (yE (K:=K) rfl rfl) rfl GA aFL (cL (cK (N':=["cut","some"]) (ix:=[none,some 1]) rfl rfl rfl (cG (K:=K) rfl (aU (eB.mono (by decide)) hr rfl (@aB _ _ _ _ _ _ (pv 3) aE))) (fun _ _ _=>(aM (i:=0) (show (["cut","some"]:List Str).Nodup from by decide +kernel) rfl (Or.inl rfl))) (fun _ _ _ => .nil) (fun _ _ _ _=>(bS rfl (aU (iQ.mono (by decide)) hr rfl (@bJ _ _ _ _ _ _ _ _ (aU (kX.mono (by decide)) hr rfl (@aB _ _ _ _ _ _ (pv 1) (@aB _ _ _ _ _ _ (pv 0) aE))) (@aB _ _ _ _ _ _ (dW (v := .ref C_TWO) rfl GC_TWO rfl) aE))) rfl))) aE))) (@aA _ _ _ _ _ (@bL _ _ _ _ mI) aH) aH)) (@aA _ _ _ _ _ (PS.nox (@bL _ _ _ _ (dL (fG (K:=K) rfl hr) (aU (eS.mono (by decide)) hr rfl (cL (cK (N':=["i","j","share","table"]) (ix:=[none,none,none,some 0]) rfl rfl rfl (cG (K:=K) rfl (pv 1)) (fun _ _ _=>(cW (K:=K) rfl rfl (aR (aM (i:=0) (show (["i","j","share","table"]:List Str).Nodup from by decide +kernel) rfl (Or.inl rfl)) (aR (aM (i:=1) (show (["i","j","share","table"]:List Str).Nodup from by decide +kernel) rfl (Or.inl rfl)) (aR (aM (i:=2) (show (["i","j","share","table"]:List Str).Nodup from by decide +kernel) rfl (Or.inl rfl)) cV))))) (fun _ _ _ => .nil) (fun _ _ _ _=>(bS rfl (aU (oU.mono (by decide)) hr rfl (@aB _ _ _ _ _ _ (pv 2) (@cU _ _ _ _ _ _ _ (@cY _ _ _ _ _ (@cQ _ _ _ _ _ _ _ (@bE _ _ _ _ _ _ _ (aQ (K:=K) rfl) (@bE _ _ _ _ _ _ _ (aQ (K:=K) rfl) (pv 3) (pv 0) (fun _ _=>rfl)) (pv 1) (fun _ _=>rfl)) (@aV _ _ _ _ _ _ _ aI aE))) aE))) rfl))) aE)) (pv 2) (bK _)))) aH))))))
theorem tF:bC ["many","thing","i","j","share"] ["many","thing"] (aJ (top 42)):=⟨rfl,rfl,rfl,by decide +kernel,rfl,by decide +kernel,by decide +kernel⟩
def uK (K:aa)  (bP:Sp) (cO:Sp):TS:=(aP (fV (tOr (aAO (tB (tCB (aGP K) (aC (aF 1) (aC (tC (.ty "tuple")) aO))))) (tOr (bU (tOp (aBK K) (tCB (jM K) (aC (aF 1) aO)) (tC (.int 3)))) (aAO (tB (bG bP [] E0 (aC (tSl (wI K) (aF 1) dX (iA (tC (.int 2)))) aO)))))) (aP (eK (tC (.bl false))) aL) aL) (aP (bW (aF 1) (pE K 3 (cP (aK 2) (cP (aK 3) (cP (aK 4) qC))))) (aP (eK (zC (aDl yLe yLt yLt (tC (.int 0)) (aF 2) (aF 3) (aF 0)) (zC (bG cO [] E0 (aC (aF 4) aO)) (tOp yGt (tOp (bH K) (aF 4) (tC (.int 0))) (tC (.int 0)))))) aL)))
theorem aAB (F:Fun K "is_share" "is_share" (top 42) f fd)(B:iC mg)    {bP:Sp}(dD:Def P w K mg base "are_wholes" 2 ["thing"] bP){cO:Sp}(eI:Def P w K mg base "is_fraction" 3 ["thing"] cO)  {sp:Sp}(len:∀ vs H Q E,sp vs H Q E->vs.length=2)
  (rd:∀ vs H Q E,sp vs H Q E->uK K  bP cO { nx:=fun _ H'=>Q .non H',rt:=Q } (bD ["many","thing","i","j","share"] vs) H):FnOk P w K mg base CX0 4 f fd ["many","thing"] sp:=by
 refine F.ok tF len (fun cdv A outer s H vs Q E hr h=>⟨_,?_,rd vs H Q E h⟩)
 have nd:=tF.nd
 exact (@aA _ _ _ _ _ (@eL _ _ _ _ _ _ _ _ (PW.pt (mZ (iF (eY (aN (jT (K:=K) rfl) rfl B.isi jZ (@aB _ _ _ _ _ _ (pv 1) (@aB _ _ _ _ _ _ (oH (v := .ty "tuple") rfl B.tuple gX rfl) aE))))) (mZ (bN (nC (K:=K) rfl hr) (aN (aX (K:=K) rfl) rfl B.len cS (@aB _ _ _ _ _ _ (pv 1) aE)) aI (bK _)) (jY (iF (eY (aU (dD.mono (by decide)) hr rfl (@cQ _ _ _ _ _ _ _ (eO (qD (K:=K) rfl) (pv 1) hZ (eU aI)) aE)))))))) (@aA _ _ _ _ _ (@bL _ _ _ _ mI) aH) aH) (@aA _ _ _ _ _ (gY (pv 1) (cW (K:=K) rfl rfl (aR (aM (i:=2) nd rfl (Or.inl rfl)) (aR (aM (i:=3) nd rfl (Or.inl rfl)) (aR (aM (i:=4) nd rfl (Or.inl rfl)) cV))))) (@aA _ _ _ _ _ (@bL _ _ _ _ (rT (aCY aKx mX mX aI (pv 2) (pv 3) (pv 0)) (rT (aU (eI.mono (by decide)) hr rfl (@aB _ _ _ _ _ _ (pv 4) aE)) (pH (dL tX (@bE _ _ _ _ _ _ _ (aQ (K:=K) rfl) (pv 4) aI (fun _ _=>rfl)) aI (bK _)))))) aH)))
theorem uS:bC ["some"] ["some"] (aJ (top 43)):=⟨rfl,rfl,rfl,by decide +kernel,rfl,by decide +kernel,by decide +kernel⟩
def yV (K:aa)   : TS:=(aP (eK (tCB (aGH K) (aC (dO [none,none] (aHA K (aC (aF 0) (aC (tSl (wI K) (aF 0) (iA (tC (.int 1))) dX) aO))) (pE K 2 (cP (aK 0) (cP (aK 1) qC))) [] fun acc=>(dI (tOp (aKC K) (aF 0) (aF 1)) acc)) aO))) aL)
theorem aCa (F:Fun K "do_rise" "do_rise" (top 43) f fd)(B:iC mg)      {sp:Sp}(len:∀ vs H Q E,sp vs H Q E->vs.length=1)
  (rd:∀ vs H Q E,sp vs H Q E->yV K   { nx:=fun _ H'=>Q .non H',rt:=Q } (bD ["some"] vs) H):FnOk P w K mg base CX0 1 f fd ["some"] sp:=by
 refine F.ok uS len (fun cdv A outer s H vs Q E hr h=>⟨_,?_,rd vs H Q E h⟩)
 have nd:=uS.nd
 exact (@aA _ _ _ _ _ (@bL _ _ _ _ (aN (iG (K:=K) rfl rfl) rfl B.all uL (cL (cK (N':=["one","other"]) (ix:=[none,none]) rfl rfl rfl (wW (K:=K) rfl rfl B.zip (@aB _ _ _ _ _ _ (pv 0) (@cQ _ _ _ _ _ _ _ (eO (qD (K:=K) rfl) (pv 0) (eU aI) hZ) aE))) (fun _ _ _=>(cW (K:=K) rfl rfl (aR (aM (i:=0) (show (["one","other"]:List Str).Nodup from by decide +kernel) rfl (Or.inl rfl)) (aR (aM (i:=1) (show (["one","other"]:List Str).Nodup from by decide +kernel) rfl (Or.inl rfl)) cV)))) (fun _ _ _ => .nil) (fun _ _ _ _=>(bS rfl (dL (aGK (K:=K) rfl hr) (pv 0) (pv 1) (bK _)) rfl))) aE))) aH)
theorem qS:bC ["some","cut"] ["some","cut"] (aJ (top 44)):=⟨rfl,rfl,rfl,by decide +kernel,rfl,by decide +kernel,by decide +kernel⟩
def uN (K:aa)  (bV:Sp) (cC:Sp):TS:=(aP (eK (bG cC [] E0 (aC (dO [none,none,none,some 1] (lG K (aF 0)) (pE K 3 (cP (aK 0) (cP (aK 1) (cP (aK 2) qC)))) [(tB (bG bV [] E0 (aC (aF 3) (aC (aF 0) (aC (aF 1) aO)))))] fun acc=>(dI (aF 2) acc)) aO))) aL)
theorem aAg (F:Fun K "over_cut" "over_cut" (top 44) f fd)(B:iC mg)    {bV:Sp}(dN:Def P w K mg base "does_part" 1 ["some","i","j"] bV){cC:Sp}(eS:Def P w K mg base "total" 3 ["some"] cC)  {sp:Sp}(len:∀ vs H Q E,sp vs H Q E->vs.length=2)
  (rd:∀ vs H Q E,sp vs H Q E->uN K  bV cC { nx:=fun _ H'=>Q .non H',rt:=Q } (bD ["some","cut"] vs) H):FnOk P w K mg base CX0 4 f fd ["some","cut"] sp:=by
 refine F.ok qS len (fun cdv A outer s H vs Q E hr h=>⟨_,?_,rd vs H Q E h⟩)
 have nd:=qS.nd
 exact (@aA _ _ _ _ _ (@bL _ _ _ _ (aU (eS.mono (by decide)) hr rfl (cL (cK (N':=["i","j","share","cut"]) (ix:=[none,none,none,some 1]) rfl rfl rfl (cG (K:=K) rfl (pv 0)) (fun _ _ _=>(cW (K:=K) rfl rfl (aR (aM (i:=0) (show (["i","j","share","cut"]:List Str).Nodup from by decide +kernel) rfl (Or.inl rfl)) (aR (aM (i:=1) (show (["i","j","share","cut"]:List Str).Nodup from by decide +kernel) rfl (Or.inl rfl)) (aR (aM (i:=2) (show (["i","j","share","cut"]:List Str).Nodup from by decide +kernel) rfl (Or.inl rfl)) cV))))) (fun _ _ _=>(.cons (eY (aU (dN.mono (by decide)) hr rfl (@aB _ _ _ _ _ _ (pv 3) (@aB _ _ _ _ _ _ (pv 0) (@aB _ _ _ _ _ _ (pv 1) aE))))) .nil)) (fun _ _ _ _=>(bS rfl (pv 2) rfl))) aE))) aH)
theorem sQ:bC ["table","some","worth","many"] ["table","some","worth"] (aJ (top 45)):=⟨rfl,rfl,rfl,by decide +kernel,rfl,by decide +kernel,by decide +kernel⟩
def uH (K:aa) (C_TWO:Addr) (E:XK) (dE:Sp) (kY:Sp) (eD:Sp) (nV:Sp) (eG:Sp) (gB:Sp) (cC:Sp) (bF:Sp):TS:=(aP (nP (bG bF [] E (aC (aF 0) aO))) (aP (bW (tCB (jM K) (aC (aF 0) aO)) (aK 3)) (aP (fV (tOr (aAO (tB (tCB (aGH K) (aC (dO [none,some 3] (lG K (aF 1)) (aK 0) [] fun acc=>(dI (bG nV [] E0 (aC (aF 1) (aC (aF 0) aO))) acc)) aO)))) (aAO (tB (bG eD [] E0 (aC (dO [none] (lG K (aF 1)) (aK 0) [] fun acc=>(dI (tOp (bH K) (aF 0) (tC (.int 0))) acc)) aO))))) (aP (eK (tC (.bl false))) aL) aL) (aP (fV (tB (tCB (aKV K) (aC (dO [none,none,some 0,some 1] (lG K (bG dE [] E0 (aC (aF 3) aO))) (pE K 2 (cP (aK 0) (cP (aK 1) qC))) [] fun acc=>(dI (bG eG [] E0 (aC (iN (aC (tOp (bH K) (tOp (bH K) (aF 2) (aF 0)) (aF 1)) (aC (tC (.int 1)) aO))) (aC (bG kY [] E0 (aC (aF 3) (aC (aF 0) (aC (aF 1) aO)))) aO))) acc)) aO))) (aP (eK (tC (.bl false))) aL) aL) (aP (eK (tOp (iX K) (bG gB [] E0 (aC (tC (.ref C_TWO)) (aC (bG cC [] E0 (aC (dO [none,none] (lG K (aF 1)) (pE K 2 (cP (aK 0) (cP (aK 1) qC))) [] fun acc=>(dI (aF 1) acc)) aO)) aO))) (aF 2))) aL)))))
theorem aAt (F:Fun K "are_cuts" "are_cuts" (top 45) f fd)(B:iC mg)  {C_TWO:Addr}(GC_TWO:mg "TWO" = some (.ref C_TWO))  (GA:mg "any" = none){dE:Sp}(fO:Def P w K mg base "all_pairs" 1 ["many"] dE){kY:Sp}(tH:Def P w K mg base "between" 4 ["some","i","j"] kY){eD:Sp}(iP:Def P w K mg base "do_rise" 1 ["some"] eD){nV:Sp}(xL:Def P w K mg base "is_cut" 4 ["many","thing"] nV){eG:Sp}(iQ:Def P w K mg base "is_less" 1 ["one","other"] eG){gB:Sp}(oU:Def P w K mg base "times" 3 ["one","other"] gB){cC:Sp}(eS:Def P w K mg base "total" 3 ["some"] cC){bF:Sp}(cH:DefX P w K mg base "refuse_unfit" 2 ["table"] bF){sp:Sp}(len:∀ vs H Q E,sp vs H Q E->vs.length=3)
  (rd:∀ vs H Q E,sp vs H Q E->uH K C_TWO E dE kY eD nV eG gB cC bF { nx:=fun _ H'=>Q .non H',rt:=Q } (bD ["table","some","worth","many"] vs) H):FnOk P w K mg base (tI P w) 5 f fd ["table","some","worth"] sp:=by
 refine F.okX sQ len (fun cdv A outer s H vs Q E hr h=>⟨_,?_,rd vs H Q E h⟩)
 have nd:=sQ.nd
 exact (@aA _ _ _ _ _ (gO (wF (cH.mono (by decide)) hr rfl kR (@aB _ _ _ _ _ _ (pv 0) aE))) (@aA _ _ _ _ _ (PS.nox (@aY _ _ 3 _ _ _ _ nd rfl (Or.inr rfl) (aN (aX (K:=K) rfl) rfl B.len cS (@aB _ _ _ _ _ _ (pv 0) aE)) (by rfl) (by first | exact .inl rfl | exact .inr rfl | assumption))) (@aA _ _ _ _ _ (PS.nox (@eL _ _ _ _ _ _ _ _ (PW.pt (mZ (iF (eY (aN (iG (K:=K) rfl rfl) rfl B.all uL (cL (cK (N':=["thing","many"]) (ix:=[none,some 3]) rfl rfl rfl (cG (K:=K) rfl (pv 1)) (fun _ _ _=>(aM (i:=0) (show (["thing","many"]:List Str).Nodup from by decide +kernel) rfl (Or.inl rfl))) (fun _ _ _ => .nil) (fun _ _ _ _=>(bS rfl (aU (xL.mono (by decide)) hr rfl (@aB _ _ _ _ _ _ (pv 1) (@aB _ _ _ _ _ _ (pv 0) aE))) rfl))) aE)))) (jY (iF (eY (aU (iP.mono (by decide)) hr rfl (cL (cK (N':=["thing"]) (ix:=[none]) rfl rfl rfl (cG (K:=K) rfl (pv 1)) (fun _ _ _=>(aM (i:=0) (show (["thing"]:List Str).Nodup from by decide +kernel) rfl (Or.inl rfl))) (fun _ _ _ => .nil) (fun _ _ _ _=>(bS rfl (@bE _ _ _ _ _ _ _ (aQ (K:=K) rfl) (pv 0) aI (fun _ _=>rfl)) rfl))) aE))))))) (@aA _ _ _ _ _ (@bL _ _ _ _ mI) aH) aH)) (@aA _ _ _ _ _ (PS.nox (@eL _ _ _ _ _ _ _ _ (eY (aN (yE (K:=K) rfl rfl) rfl GA aFL (cL (cK (N':=["i","j","table","some"]) (ix:=[none,none,some 0,some 1]) rfl rfl rfl (cG (K:=K) rfl (aU (fO.mono (by decide)) hr rfl (@aB _ _ _ _ _ _ (pv 3) aE))) (fun _ _ _=>(cW (K:=K) rfl rfl (aR (aM (i:=0) (show (["i","j","table","some"]:List Str).Nodup from by decide +kernel) rfl (Or.inl rfl)) (aR (aM (i:=1) (show (["i","j","table","some"]:List Str).Nodup from by decide +kernel) rfl (Or.inl rfl)) cV)))) (fun _ _ _ => .nil) (fun _ _ _ _=>(bS rfl (aU (iQ.mono (by decide)) hr rfl (@cU _ _ _ _ _ _ _ (@cY _ _ _ _ _ (@cQ _ _ _ _ _ _ _ (@bE _ _ _ _ _ _ _ (aQ (K:=K) rfl) (@bE _ _ _ _ _ _ _ (aQ (K:=K) rfl) (pv 2) (pv 0) (fun _ _=>rfl)) (pv 1) (fun _ _=>rfl)) (@aV _ _ _ _ _ _ _ aI aE))) (@bJ _ _ _ _ _ _ _ _ (aU (tH.mono (by decide)) hr rfl (@aB _ _ _ _ _ _ (pv 3) (@aB _ _ _ _ _ _ (pv 0) (@aB _ _ _ _ _ _ (pv 1) aE)))) aE))) rfl))) aE))) (@aA _ _ _ _ _ (@bL _ _ _ _ mI) aH) aH)) (@aA _ _ _ _ _ (PS.nox (@bL _ _ _ _ (dL (fG (K:=K) rfl hr) (aU (oU.mono (by decide)) hr rfl (@aB _ _ _ _ _ _ (dW (v := .ref C_TWO) rfl GC_TWO rfl) (@bJ _ _ _ _ _ _ _ _ (aU (eS.mono (by decide)) hr rfl (cL (cK (N':=["cut","price"]) (ix:=[none,none]) rfl rfl rfl (cG (K:=K) rfl (pv 1)) (fun _ _ _=>(cW (K:=K) rfl rfl (aR (aM (i:=0) (show (["cut","price"]:List Str).Nodup from by decide +kernel) rfl (Or.inl rfl)) (aR (aM (i:=1) (show (["cut","price"]:List Str).Nodup from by decide +kernel) rfl (Or.inl rfl)) cV)))) (fun _ _ _ => .nil) (fun _ _ _ _=>(bS rfl (pv 1) rfl))) aE)) aE))) (pv 2) (bK _)))) aH)))))
theorem xT:bC ["many","thing","cut","price"] ["many","thing"] (aJ (top 46)):=⟨rfl,rfl,rfl,by decide +kernel,rfl,by decide +kernel,by decide +kernel⟩
def aBI (K:aa)  (cI:Sp) (bP:Sp) (cO:Sp):TS:=(aP (fV (tOr (aAO (tB (tCB (aGP K) (aC (aF 1) (aC (tC (.ty "tuple")) aO))))) (bU (tOp (aBK K) (tCB (jM K) (aC (aF 1) aO)) (tC (.int 2))))) (aP (eK (tC (.bl false))) aL) aL) (aP (bW (aF 1) (pE K 2 (cP (aK 2) (cP (aK 3) qC)))) (aP (fV (tOr (aAO (tB (bG bP [] E0 (aC (aF 2) aO)))) (tOr (bU (tOp (aLz K true) (aF 2) (bG cI [] E0 (aC (aF 0) aO)))) (aAO (tB (bG cO [] E0 (aC (aF 3) aO)))))) (aP (eK (tC (.bl false))) aL) aL) (aP (eK (aKu (tOp yGt (tOp (bH K) (aF 3) (tC (.int 0))) (tC (.int 0))) (zC (tOp (iX K) (tCB (jM K) (aC (aF 2) aO)) (tC (.int 1))) (tOp yLt (tOp (bH K) (aF 3) (tC (.int 0))) (tC (.int 0)))))) aL))))
theorem aDg (F:Fun K "is_cut" "is_cut" (top 46) f fd)(B:iC mg)    {cI:Sp}(eB:Def P w K mg base "all_sets" 1 ["many"] cI){bP:Sp}(dD:Def P w K mg base "are_wholes" 2 ["thing"] bP){cO:Sp}(eI:Def P w K mg base "is_fraction" 3 ["thing"] cO)  {sp:Sp}(len:∀ vs H Q E,sp vs H Q E->vs.length=2)
  (rd:∀ vs H Q E,sp vs H Q E->aBI K  cI bP cO { nx:=fun _ H'=>Q .non H',rt:=Q } (bD ["many","thing","cut","price"] vs) H):FnOk P w K mg base CX0 4 f fd ["many","thing"] sp:=by
 refine F.ok xT len (fun cdv A outer s H vs Q E hr h=>⟨_,?_,rd vs H Q E h⟩)
 have nd:=xT.nd
 exact (@aA _ _ _ _ _ (@eL _ _ _ _ _ _ _ _ (PW.pt (mZ (iF (eY (aN (jT (K:=K) rfl) rfl B.isi jZ (@aB _ _ _ _ _ _ (pv 1) (@aB _ _ _ _ _ _ (oH (v := .ty "tuple") rfl B.tuple gX rfl) aE))))) (jY (bN (nC (K:=K) rfl hr) (aN (aX (K:=K) rfl) rfl B.len cS (@aB _ _ _ _ _ _ (pv 1) aE)) aI (bK _))))) (@aA _ _ _ _ _ (@bL _ _ _ _ mI) aH) aH) (@aA _ _ _ _ _ (gY (pv 1) (cW (K:=K) rfl rfl (aR (aM (i:=2) nd rfl (Or.inl rfl)) (aR (aM (i:=3) nd rfl (Or.inl rfl)) cV)))) (@aA _ _ _ _ _ (@eL _ _ _ _ _ _ _ _ (PW.pt (mZ (iF (eY (aU (dD.mono (by decide)) hr rfl (@aB _ _ _ _ _ _ (pv 2) aE)))) (mZ (bN (aBY (K:=K) rfl hr) (pv 2) (aU (eB.mono (by decide)) hr rfl (@aB _ _ _ _ _ _ (pv 0) aE)) rfl) (jY (iF (eY (aU (eI.mono (by decide)) hr rfl (@aB _ _ _ _ _ _ (pv 3) aE)))))))) (@aA _ _ _ _ _ (@bL _ _ _ _ mI) aH) aH) (@aA _ _ _ _ _ (@bL _ _ _ _ (aJp (dL tX (@bE _ _ _ _ _ _ _ (aQ (K:=K) rfl) (pv 3) aI (fun _ _=>rfl)) aI (bK _)) (pH (rT (dL (fG (K:=K) rfl hr) (aN (aX (K:=K) rfl) rfl B.len cS (@aB _ _ _ _ _ _ (pv 2) aE)) aI (bK _)) (pH (dL mX (@bE _ _ _ _ _ _ _ (aQ (K:=K) rfl) (pv 3) aI (fun _ _=>rfl)) aI (bK _))))))) aH))))
theorem uI:bC ["some","i","j"] ["some","i","j"] (aJ (top 47)):=⟨rfl,rfl,rfl,by decide +kernel,rfl,by decide +kernel,by decide +kernel⟩
def zP (K:aa)  (bV:Sp) (cC:Sp):TS:=(aP (eK (bG cC [] E0 (aC (dO [none,none,some 1,some 2] (lG K (aF 0)) (pE K 2 (cP (aK 0) (cP (aK 1) qC))) [(tB (bG bV [] E0 (aC (aF 0) (aC (aF 2) (aC (aF 3) aO)))))] fun acc=>(dI (aF 1) acc)) aO))) aL)
theorem aCh (F:Fun K "between" "between" (top 47) f fd)(B:iC mg)    {bV:Sp}(dN:Def P w K mg base "does_part" 1 ["some","i","j"] bV){cC:Sp}(eS:Def P w K mg base "total" 3 ["some"] cC)  {sp:Sp}(len:∀ vs H Q E,sp vs H Q E->vs.length=3)
  (rd:∀ vs H Q E,sp vs H Q E->zP K  bV cC { nx:=fun _ H'=>Q .non H',rt:=Q } (bD ["some","i","j"] vs) H):FnOk P w K mg base CX0 4 f fd ["some","i","j"] sp:=by
 refine F.ok uI len (fun cdv A outer s H vs Q E hr h=>⟨_,?_,rd vs H Q E h⟩)
 have nd:=uI.nd
 exact (@aA _ _ _ _ _ (@bL _ _ _ _ (aU (eS.mono (by decide)) hr rfl (cL (cK (N':=["cut","price","i","j"]) (ix:=[none,none,some 1,some 2]) rfl rfl rfl (cG (K:=K) rfl (pv 0)) (fun _ _ _=>(cW (K:=K) rfl rfl (aR (aM (i:=0) (show (["cut","price","i","j"]:List Str).Nodup from by decide +kernel) rfl (Or.inl rfl)) (aR (aM (i:=1) (show (["cut","price","i","j"]:List Str).Nodup from by decide +kernel) rfl (Or.inl rfl)) cV)))) (fun _ _ _=>(.cons (eY (aU (dN.mono (by decide)) hr rfl (@aB _ _ _ _ _ _ (pv 0) (@aB _ _ _ _ _ _ (pv 2) (@aB _ _ _ _ _ _ (pv 3) aE))))) .nil)) (fun _ _ _ _=>(bS rfl (pv 1) rfl))) aE))) aH)
theorem lH:bC ["table","worth","found","cuts"] ["table"] (aJ (top 48)):=⟨rfl,rfl,rfl,by decide +kernel,rfl,by decide +kernel,by decide +kernel⟩
def mP (K:aa)  (E:XK) (cC:Sp) (nW:Sp):TS:=(aP (bW (bG nW [] E (aC (aF 0) aO)) (pE K 3 (cP (aK 1) (cP (aK 2) (cP (aK 3) qC))))) (aP (eK (tCB (pK K) (aC (dO [none,some 3] (kD (aC (tCB (jM K) (aC (aF 0) aO)) aO)) (aK 0) [] fun acc=>(dI (bG cC [] E0 (aC (dO [none,none,some 0] (lG K (aF 1)) (pE K 2 (cP (aK 0) (cP (aK 1) qC))) [(bU (tOp (rIn K false) (aF 2) (aF 0)))] fun acc=>(dI (aF 1) acc)) aO)) acc)) aO))) aL))
theorem tU (F:Fun K "best_prices" "best_prices" (top 48) f fd)(B:iC mg)    {cC:Sp}(eS:Def P w K mg base "total" 3 ["some"] cC){nW:Sp}(nX:DefX P w K mg base "shares" 4 ["table"] nW){sp:Sp}(len:∀ vs H Q E,sp vs H Q E->vs.length=1)
  (rd:∀ vs H Q E,sp vs H Q E->mP K  E cC nW { nx:=fun _ H'=>Q .non H',rt:=Q } (bD ["table","worth","found","cuts"] vs) H):FnOk P w K mg base (tI P w) 5 f fd ["table"] sp:=by
 refine F.okX lH len (fun cdv A outer s H vs Q E hr h=>⟨_,?_,rd vs H Q E h⟩)
 have nd:=lH.nd
 exact (@aA _ _ _ _ _ (gY (wF (nX.mono (by decide)) hr rfl kR (@aB _ _ _ _ _ _ (pv 0) aE)) (cW (K:=K) rfl rfl (aR (aM (i:=1) nd rfl (Or.inl rfl)) (aR (aM (i:=2) nd rfl (Or.inl rfl)) (aR (aM (i:=3) nd rfl (Or.inr rfl)) cV))))) (@aA _ _ _ _ _ (PS.nox (@bL _ _ _ _ (dY (gG (K:=K) rfl) rfl B.tuple gX (cL (cK (N':=["place","cuts"]) (ix:=[none,some 3]) rfl rfl rfl (cZ rfl B.range (@bJ _ _ _ _ _ _ _ _ (aN (aX (K:=K) rfl) rfl B.len cS (@aB _ _ _ _ _ _ (pv 0) aE)) aE)) (fun _ _ _=>(aM (i:=0) (show (["place","cuts"]:List Str).Nodup from by decide +kernel) rfl (Or.inr rfl))) (fun _ _ _ => .nil) (fun _ _ _ _=>(bS rfl (aU (eS.mono (by decide)) hr rfl (cL (cK (N':=["cut","price","place"]) (ix:=[none,none,some 0]) rfl rfl rfl (cG (K:=K) rfl (pv 1)) (fun _ _ _=>(cW (K:=K) rfl rfl (aR (aM (i:=0) (show (["cut","price","place"]:List Str).Nodup from by decide +kernel) rfl (Or.inl rfl)) (aR (aM (i:=1) (show (["cut","price","place"]:List Str).Nodup from by decide +kernel) rfl (Or.inl rfl)) cV)))) (fun _ _ _=>(.cons (bN (aCL (K:=K) rfl) (pv 2) (pv 0) rfl) .nil)) (fun _ _ _ _=>(bS rfl (pv 1) rfl))) aE)) rfl))) aE)))) aH))
theorem lA:bC ["cell","at","one","two","three"] ["cell","at"] (aJ (top 50)):=⟨rfl,rfl,rfl,by decide +kernel,rfl,by decide +kernel,by decide +kernel⟩
def mW (K:aa)   : TS:=(aP (bW (tOp aAG (tOp (cM K) (tOp (cM K) (tOp fL (tOp aAG (aF 0) (tC (.int 1000000007))) (tC (.int 69069))) (tOp fL (aF 1) (tC (.int 40503)))) (tC (.int 977))) (tC (.int 2147483629))) (aK 2)) (aP (bW (tOp aAG (tOp (cM K) (tOp (cM K) (tOp fL (aF 2) (aF 2)) (tOp fL (aF 1) (tC (.int 7919)))) (tOp aAG (aF 0) (tC (.int 65537)))) (tC (.int 2147483587))) (aK 3)) (aP (bW (tOp aAG (tOp (cM K) (tOp (cM K) (tOp fL (aF 3) (aF 3)) (tOp fL (aF 2) (tC (.int 31)))) (tC (.int 5))) (tC (.int 2147483563))) (aK 4)) (aP (eK (tOp (cM K) (tOp fL (tOp (cM K) (tOp fL (aF 2) (tC (.int 2147483659))) (aF 3)) (tC (.int 2147483693))) (aF 4))) aL))))
theorem uA (F:Fun K "_law_cmixed" "_law_cmixed" (top 50) f fd)(B:iC mg)      {sp:Sp}(len:∀ vs H Q E,sp vs H Q E->vs.length=2)
  (rd:∀ vs H Q E,sp vs H Q E->mW K   { nx:=fun _ H'=>Q .non H',rt:=Q } (bD ["cell","at","one","two","three"] vs) H):FnOk P w K mg base CX0 1 f fd ["cell","at"] sp:=by
 refine F.ok lA len (fun cdv A outer s H vs Q E hr h=>⟨_,?_,rd vs H Q E h⟩)
 have nd:=lA.nd
 exact (@aA _ _ _ _ _ (@aY _ _ 2 _ _ _ _ nd rfl (Or.inl rfl) (@bI _ _ _ _ _ _ _ _ kZ (@bI _ _ _ _ _ _ _ _ (bR (K:=K) rfl) (@bI _ _ _ _ _ _ _ _ (bR (K:=K) rfl) (@bI _ _ _ _ _ _ _ _ dB (@bI _ _ _ _ _ _ _ _ kZ (pv 0) aI) aI) (@bI _ _ _ _ _ _ _ _ dB (pv 1) aI)) aI) aI) (by rfl) (by first | exact .inl rfl | exact .inr rfl | assumption)) (@aA _ _ _ _ _ (@aY _ _ 3 _ _ _ _ nd rfl (Or.inl rfl) (@bI _ _ _ _ _ _ _ _ kZ (@bI _ _ _ _ _ _ _ _ (bR (K:=K) rfl) (@bI _ _ _ _ _ _ _ _ (bR (K:=K) rfl) (@bI _ _ _ _ _ _ _ _ dB (pv 2) (pv 2)) (@bI _ _ _ _ _ _ _ _ dB (pv 1) aI)) (@bI _ _ _ _ _ _ _ _ kZ (pv 0) aI)) aI) (by rfl) (by first | exact .inl rfl | exact .inr rfl | assumption)) (@aA _ _ _ _ _ (@aY _ _ 4 _ _ _ _ nd rfl (Or.inl rfl) (@bI _ _ _ _ _ _ _ _ kZ (@bI _ _ _ _ _ _ _ _ (bR (K:=K) rfl) (@bI _ _ _ _ _ _ _ _ (bR (K:=K) rfl) (@bI _ _ _ _ _ _ _ _ dB (pv 3) (pv 3)) (@bI _ _ _ _ _ _ _ _ dB (pv 2) aI)) aI) aI) (by rfl) (by first | exact .inl rfl | exact .inr rfl | assumption)) (@aA _ _ _ _ _ (@bL _ _ _ _ (@bI _ _ _ _ _ _ _ _ (bR (K:=K) rfl) (@bI _ _ _ _ _ _ _ _ dB (@bI _ _ _ _ _ _ _ _ (bR (K:=K) rfl) (@bI _ _ _ _ _ _ _ _ dB (pv 2) aI) (pv 3)) aI) (pv 4))) aH))))
theorem nQ:bC ["script"] ["script"] (aJ (top 51)):=⟨rfl,rfl,rfl,by decide +kernel,rfl,by decide +kernel,by decide +kernel⟩
def pR (K:aa)   : TS:=(aP (eK (lX (aC (tCB (aCg K) (aC (tSl (wI K) (aF 0) dX (iA (tC (.int 40)))) aO)) (aC (tC (.int 0)) (aC (tC (.int 0)) aO))))) aL)
theorem xB (F:Fun K "_law_copen" "_law_copen" (top 51) f fd)(B:iC mg)      {sp:Sp}(len:∀ vs H Q E,sp vs H Q E->vs.length=1)
  (rd:∀ vs H Q E,sp vs H Q E->pR K   { nx:=fun _ H'=>Q .non H',rt:=Q } (bD ["script"] vs) H):FnOk P w K mg base CX0 1 f fd ["script"] sp:=by
 refine F.ok nQ len (fun cdv A outer s H vs Q E hr h=>⟨_,?_,rd vs H Q E h⟩)
 have nd:=nQ.nd
 exact (@aA _ _ _ _ _ (@bL _ _ _ _ (@dR _ _ _ _ (@bJ _ _ _ _ _ _ _ _ (dY (kP (K:=K) rfl rfl) rfl B.list vT (@cQ _ _ _ _ _ _ _ (eO (qD (K:=K) rfl) (pv 0) hZ (eU aI)) aE)) (@aV _ _ _ _ _ _ _ aI (@aV _ _ _ _ _ _ _ aI aE))))) aH)
theorem nH:bC ["feed","many","at","cell","found"] ["feed","many"] (aJ (top 52)):=⟨rfl,rfl,rfl,by decide +kernel,rfl,by decide +kernel,by decide +kernel⟩
def pM (K:aa)  (fR:Sp):TS:=(aP (fV (aFR (bU (tOp yLt (tOp (bH K) (aF 0) (tC (.int 2))) (aF 1))) (bU (tOp yGt (tCB (jM K) (aC (tOp (bH K) (aF 0) (tC (.int 0))) aO)) (tC (.int 0))))) (aP (bW (tOp (bH K) (aF 0) (tC (.int 1))) (aK 2)) (aP (bW (tOp (bH K) (tOp (bH K) (aF 0) (tC (.int 0))) (tOp aAG (aF 2) (tCB (jM K) (aC (tOp (bH K) (aF 0) (tC (.int 0))) aO)))) (aK 3)) (aP (bW (tOp (cM K) (aF 2) (tC (.int 1))) (oB (aF 0) (tC (.int 1)) fH)) (aP (bW (aF 3) (oB (aF 0) (tC (.int 2)) fH)) (aP (fV (tOr (bU (tOp yLt (aF 3) (tOp aFu (tC (.int 10)) (tC (.int 18))))) (bU (tOp yGe (aF 2) (tCB (jM K) (aC (tOp (bH K) (aF 0) (tC (.int 0))) aO))))) (aP (bW (bG fR [] E0 (aC (aF 3) (aC (aF 2) aO))) (oB (aF 0) (tC (.int 2)) fH)) aL) aL) aL))))) aL) (aP (bW (tOp aAG (tOp (bH K) (aF 0) (tC (.int 2))) (aF 1)) (aK 4)) (aP (bW (tOp vL (tOp (bH K) (aF 0) (tC (.int 2))) (aF 1)) (oB (aF 0) (tC (.int 2)) fH)) (aP (eK (aF 4)) aL))))
theorem wN (F:Fun K "_law_cdraw" "_law_cdraw" (top 52) f fd)(B:iC mg)    {fR:Sp}(jB:Def P w K mg base "_law_cmixed" 1 ["cell","at"] fR)  {sp:Sp}(len:∀ vs H Q E,sp vs H Q E->vs.length=2)
  (rd:∀ vs H Q E,sp vs H Q E->pM K  fR { nx:=fun _ H'=>Q .non H',rt:=Q } (bD ["feed","many","at","cell","found"] vs) H):FnOk P w K mg base CX0 2 f fd ["feed","many"] sp:=by
 refine F.ok nH len (fun cdv A outer s H vs Q E hr h=>⟨_,?_,rd vs H Q E h⟩)
 have nd:=nH.nd
 exact (@aA _ _ _ _ _ (@eL _ _ _ _ _ _ _ _ (PW.pt (zE (bN mX (@bE _ _ _ _ _ _ _ (aQ (K:=K) rfl) (pv 0) aI (fun _ _=>rfl)) (pv 1) (bK _)) (sR (bN tX (aN (aX (K:=K) rfl) rfl B.len cS (@cQ _ _ _ _ _ _ _ (@bE _ _ _ _ _ _ _ (aQ (K:=K) rfl) (pv 0) aI (fun _ _=>rfl)) aE)) aI (bK _))))) (@aA _ _ _ _ _ (@aY _ _ 2 _ _ _ _ nd rfl (Or.inl rfl) (@bE _ _ _ _ _ _ _ (aQ (K:=K) rfl) (pv 0) aI (fun _ _=>rfl)) (by rfl) (by first | exact .inl rfl | exact .inr rfl | assumption)) (@aA _ _ _ _ _ (@aY _ _ 3 _ _ _ _ nd rfl (Or.inl rfl) (@bE _ _ _ _ _ _ _ (aQ (K:=K) rfl) (@bE _ _ _ _ _ _ _ (aQ (K:=K) rfl) (pv 0) aI (fun _ _=>rfl)) (@bI _ _ _ _ _ _ _ _ kZ (pv 2) (aN (aX (K:=K) rfl) rfl B.len cS (@cQ _ _ _ _ _ _ _ (@bE _ _ _ _ _ _ _ (aQ (K:=K) rfl) (pv 0) aI (fun _ _=>rfl)) aE))) (fun _ _=>rfl)) (by rfl) (by first | exact .inl rfl | exact .inr rfl | assumption)) (@aA _ _ _ _ _ (gY (@bI _ _ _ _ _ _ _ _ (bR (K:=K) rfl) (pv 2) aI) (mH (pv 0) aI fY)) (@aA _ _ _ _ _ (gY (pv 3) (mH (pv 0) aI fY)) (@aA _ _ _ _ _ (@eL _ _ _ _ _ _ _ _ (PW.pt (mZ (bN mX (pv 3) (@bI _ _ _ _ _ _ _ _ aDc aI aI) (bK _)) (jY (bN aIS (pv 2) (aN (aX (K:=K) rfl) rfl B.len cS (@cQ _ _ _ _ _ _ _ (@bE _ _ _ _ _ _ _ (aQ (K:=K) rfl) (pv 0) aI (fun _ _=>rfl)) aE)) (bK _))))) (@aA _ _ _ _ _ (gY (aU (jB.mono (by decide)) hr rfl (@aB _ _ _ _ _ _ (pv 3) (@aB _ _ _ _ _ _ (pv 2) aE))) (mH (pv 0) aI fY)) aH) aH) aH))))) aH) (@aA _ _ _ _ _ (@aY _ _ 4 _ _ _ _ nd rfl (Or.inl rfl) (@bI _ _ _ _ _ _ _ _ kZ (@bE _ _ _ _ _ _ _ (aQ (K:=K) rfl) (pv 0) aI (fun _ _=>rfl)) (pv 1)) (by rfl) (by first | exact .inl rfl | exact .inr rfl | assumption)) (@aA _ _ _ _ _ (gY (@bI _ _ _ _ _ _ _ _ kS (@bE _ _ _ _ _ _ _ (aQ (K:=K) rfl) (pv 0) aI (fun _ _=>rfl)) (pv 1)) (mH (pv 0) aI fY)) (@aA _ _ _ _ _ (@bL _ _ _ _ (pv 4)) aH))))
theorem lJ:bC ["many","found","i"] ["many"] (aJ (top 53)):=⟨rfl,rfl,rfl,by decide +kernel,rfl,by decide +kernel,by decide +kernel⟩
def nJ (K:aa)   : TS:=(aP (bW (lX aO) (aK 1)) (aP (tK (kD (aC (aF 0) aO)) (aK 2) (aP (bW (tOp (cM K) (aF 1) (dO [none,some 2] (aHx (aC (tOp (cM K) (aF 2) (tC (.int 1))) (aC (aF 0) aO))) (aK 0) [] fun acc=>(dI (iN (aC (aF 1) (aC (aF 0) aO))) acc))) (aK 1)) aL)) (aP (eK (aF 1)) aL)))
theorem tW (F:Fun K "_law_cpairs" "_law_cpairs" (top 53) f fd)(B:iC mg)      {sp:Sp}(len:∀ vs H Q E,sp vs H Q E->vs.length=1)
  (rd:∀ vs H Q E,sp vs H Q E->nJ K   { nx:=fun _ H'=>Q .non H',rt:=Q } (bD ["many","found","i"] vs) H):FnOk P w K mg base CX0 1 f fd ["many"] sp:=by
 refine F.ok lJ len (fun cdv A outer s H vs Q E hr h=>⟨_,?_,rd vs H Q E h⟩)
 have nd:=lJ.nd
 exact (@aA _ _ _ _ _ (@aY _ _ 1 _ _ _ _ nd rfl (Or.inl rfl) (@dR _ _ _ _ aE) (by rfl) (by first | exact .inl rfl | exact .inr rfl | assumption)) (@aA _ _ _ _ _ (gH ff rfl (cZ rfl B.range (@aB _ _ _ _ _ _ (pv 0) aE)) (aM (i:=2) nd rfl (Or.inr rfl)) (@aA _ _ _ _ _ (@aY _ _ 1 _ _ _ _ nd rfl (Or.inl rfl) (@bI _ _ _ _ _ _ _ _ (bR (K:=K) rfl) (pv 1) (cK (N':=["j","i"]) (ix:=[none,some 2]) rfl rfl rfl (zX rfl B.range (@dU _ _ _ _ _ _ _ _ (@bI _ _ _ _ _ _ _ _ (bR (K:=K) rfl) (pv 2) aI) (@aB _ _ _ _ _ _ (pv 0) aE))) (fun _ _ _=>(aM (i:=0) (show (["j","i"]:List Str).Nodup from by decide +kernel) rfl (Or.inl rfl))) (fun _ _ _ => .nil) (fun _ _ _ _=>(bS rfl (@cY _ _ _ _ _ (@aB _ _ _ _ _ _ (pv 1) (@aB _ _ _ _ _ _ (pv 0) aE))) rfl)))) (by rfl) (by first | exact .inl rfl | exact .inr rfl | assumption)) aH)) (@aA _ _ _ _ _ (@bL _ _ _ _ (pv 1)) aH)))
theorem lD:bC ["rows","found","k","i","j","step"] ["rows"] (aJ (top 54)):=⟨rfl,rfl,rfl,by decide +kernel,rfl,by decide +kernel,by decide +kernel⟩
def mY (K:aa)   : TS:=(aP (bW (dO [none] (lG K (aF 0)) (aK 0) [] fun acc=>(dI (tCB (aCg K) (aC (aF 0) aO)) acc)) (aK 1)) (aP (tK (kD (aC (tCB (jM K) (aC (aF 0) aO)) aO)) (aK 2) (aP (tK (kD (aC (tCB (jM K) (aC (aF 0) aO)) aO)) (aK 3) (aP (tK (kD (aC (tCB (jM K) (aC (aF 0) aO)) aO)) (aK 4) (aP (bW (tOp (cM K) (tOp (bH K) (tOp (bH K) (aF 1) (aF 3)) (aF 2)) (tOp (bH K) (tOp (bH K) (aF 1) (aF 2)) (aF 4))) (aK 5)) (aP (bW (tCB vR (aC (tOp (bH K) (tOp (bH K) (aF 1) (aF 3)) (aF 4)) (aC (aF 5) aO))) (oB (tOp (bH K) (aF 1) (aF 3)) (aF 4) fH)) aL))) aL)) aL)) (aP (eK (tCB (pK K) (aC (dO [none] (lG K (aF 1)) (aK 0) [] fun acc=>(dI (tCB (pK K) (aC (aF 0) aO)) acc)) aO))) aL)))
theorem tN (F:Fun K "_law_cshort" "_law_cshort" (top 54) f fd)(B:iC mg)      {sp:Sp}(len:∀ vs H Q E,sp vs H Q E->vs.length=1)
  (rd:∀ vs H Q E,sp vs H Q E->mY K   { nx:=fun _ H'=>Q .non H',rt:=Q } (bD ["rows","found","k","i","j","step"] vs) H):FnOk P w K mg base CX0 1 f fd ["rows"] sp:=by
 refine F.ok lD len (fun cdv A outer s H vs Q E hr h=>⟨_,?_,rd vs H Q E h⟩)
 have nd:=lD.nd
 exact (@aA _ _ _ _ _ (fK (i:=1) nd rfl (Or.inl rfl) (N':=["row"]) (ix:=[none]) rfl rfl rfl (cG (K:=K) rfl (pv 0)) (fun _ _ _=>(aM (i:=0) (show (["row"]:List Str).Nodup from by decide +kernel) rfl (Or.inl rfl))) (fun _ _ _ => .nil) (fun _ _ _ _=>(bS rfl (dY (kP (K:=K) rfl rfl) rfl B.list vT (@aB _ _ _ _ _ _ (pv 0) aE)) rfl))) (@aA _ _ _ _ _ (gH ff rfl (cZ rfl B.range (@bJ _ _ _ _ _ _ _ _ (aN (aX (K:=K) rfl) rfl B.len cS (@aB _ _ _ _ _ _ (pv 0) aE)) aE)) (aM (i:=2) nd rfl (Or.inl rfl)) (@aA _ _ _ _ _ (gH ff rfl (cZ rfl B.range (@bJ _ _ _ _ _ _ _ _ (aN (aX (K:=K) rfl) rfl B.len cS (@aB _ _ _ _ _ _ (pv 0) aE)) aE)) (aM (i:=3) nd rfl (Or.inl rfl)) (@aA _ _ _ _ _ (gH ff rfl (cZ rfl B.range (@bJ _ _ _ _ _ _ _ _ (aN (aX (K:=K) rfl) rfl B.len cS (@aB _ _ _ _ _ _ (pv 0) aE)) aE)) (aM (i:=4) nd rfl (Or.inl rfl)) (@aA _ _ _ _ _ (@aY _ _ 5 _ _ _ _ nd rfl (Or.inl rfl) (@bI _ _ _ _ _ _ _ _ (bR (K:=K) rfl) (@bE _ _ _ _ _ _ _ (aQ (K:=K) rfl) (@bE _ _ _ _ _ _ _ (aQ (K:=K) rfl) (pv 1) (pv 3) (fun _ _=>rfl)) (pv 2) (fun _ _=>rfl)) (@bE _ _ _ _ _ _ _ (aQ (K:=K) rfl) (@bE _ _ _ _ _ _ _ (aQ (K:=K) rfl) (pv 1) (pv 2) (fun _ _=>rfl)) (pv 4) (fun _ _=>rfl))) (by rfl) (by first | exact .inl rfl | exact .inr rfl | assumption)) (@aA _ _ _ _ _ (gY (aN (uU rfl) rfl B.min aGl (@cQ _ _ _ _ _ _ _ (@bE _ _ _ _ _ _ _ (aQ (K:=K) rfl) (@bE _ _ _ _ _ _ _ (aQ (K:=K) rfl) (pv 1) (pv 3) (fun _ _=>rfl)) (pv 4) (fun _ _=>rfl)) (@aB _ _ _ _ _ _ (pv 5) aE))) (mH (@bE _ _ _ _ _ _ _ (aQ (K:=K) rfl) (pv 1) (pv 3) (fun _ _=>rfl)) (pv 4) fY)) aH))) aH)) aH)) (@aA _ _ _ _ _ (@bL _ _ _ _ (dY (gG (K:=K) rfl) rfl B.tuple gX (cL (cK (N':=["row"]) (ix:=[none]) rfl rfl rfl (cG (K:=K) rfl (pv 1)) (fun _ _ _=>(aM (i:=0) (show (["row"]:List Str).Nodup from by decide +kernel) rfl (Or.inl rfl))) (fun _ _ _ => .nil) (fun _ _ _ _=>(bS rfl (dY (gG (K:=K) rfl) rfl B.tuple gX (@aB _ _ _ _ _ _ (pv 0) aE)) rfl))) aE))) aH)))
theorem mG:bC ["feed","least","most","many","way","top","rows","spots","i","j","found"] ["feed","least","most"] (aJ (top 55)):=⟨rfl,rfl,rfl,by decide +kernel,rfl,by decide +kernel,by decide +kernel⟩
def oX (K:aa)  (aS:Sp) (cE:Sp) (cF:Sp):TS:=(aP (bW (tOp (cM K) (aF 1) (bG aS [] E0 (aC (aF 0) (aC (tOp (cM K) (tOp pV (aF 2) (aF 1)) (tC (.int 1))) aO)))) (aK 3)) (aP (bW (bG aS [] E0 (aC (aF 0) (aC (tC (.int 8)) aO))) (aK 4)) (aP (bW (tOp (bH K) (lX (aC (tC (.int 2)) (aC (tC (.int 5)) (aC (tC (.int 30)) (aC (tC (.int 1000001)) aO))))) (bG aS [] E0 (aC (aF 0) (aC (tC (.int 4)) aO)))) (aK 5)) (aP (bW (dO [none,some 3] (kD (aC (aF 3) aO)) (aK 0) [] fun acc=>(dI (tOp fL (lX (aC (tC (.int 0)) aO)) (aF 1)) acc)) (aK 6)) (aP (bW (dO [none,some 0,some 5] (kD (aC (aF 3) aO)) (aK 0) [] fun acc=>(dI (iN (aC (bG aS [] E0 (aC (aF 1) (aC (aF 2) aO))) (aC (bG aS [] E0 (aC (aF 1) (aC (aF 2) aO))) aO))) acc)) (aK 7)) (aP (tK (lG K (bG cE [] E0 (aC (aF 3) aO))) (pE K 2 (cP (aK 8) (cP (aK 9) qC))) (aP (bW (bG aS [] E0 (aC (aF 0) (aC (aF 5) aO))) (aK 10)) (aP (fV (bU (tOp (iX K) (aF 4) (tC (.int 1)))) (aP (bW (tOp fL (tOp aAG (aF 10) (tC (.int 2))) (tOp pV (aF 5) (tC (.int 1)))) (aK 10)) aL) aL) (aP (fV (tOr (bU (tOp (iX K) (aF 4) (tC (.int 2)))) (bU (tOp (iX K) (aF 4) (tC (.int 3))))) (aP (bW (tCB aCw (aC (tOp pV (tOp (bH K) (tOp (bH K) (aF 7) (aF 8)) (tC (.int 0))) (tOp (bH K) (tOp (bH K) (aF 7) (aF 9)) (tC (.int 0)))) aO)) (aK 10)) aL) aL) (aP (fV (bU (tOp (iX K) (aF 4) (tC (.int 3)))) (aP (bW (tOp (cM K) (aF 10) (tCB aCw (aC (tOp pV (tOp (bH K) (tOp (bH K) (aF 7) (aF 8)) (tC (.int 1))) (tOp (bH K) (tOp (bH K) (aF 7) (aF 9)) (tC (.int 1)))) aO))) (aK 10)) aL) aL) (aP (fV (bU (tOp (iX K) (aF 4) (tC (.int 4)))) (aP (bW (tOp pV (aF 5) (tC (.int 1))) (aK 10)) aL) aL) (aP (bW (tCB vR (aC (aF 10) (aC (tOp aFu (tC (.int 10)) (tC (.int 6))) aO))) (oB (tOp (bH K) (aF 6) (aF 8)) (aF 9) fH)) (aP (bW (tOp (bH K) (tOp (bH K) (aF 6) (aF 8)) (aF 9)) (oB (tOp (bH K) (aF 6) (aF 9)) (aF 8) fH)) aL)))))))) (aP (fV (bU (tOp yGt (aF 4) (tC (.int 5)))) (aP (eK (bG cF [] E0 (aC (aF 6) aO))) aL) aL) (aP (eK (tCB (pK K) (aC (dO [none] (lG K (aF 6)) (aK 0) [] fun acc=>(dI (tCB (pK K) (aC (aF 0) aO)) acc)) aO))) aL))))))))
theorem vY (F:Fun K "_law_ceven" "_law_ceven" (top 55) f fd)(B:iC mg)    {aS:Sp}(cJ:Def P w K mg base "_law_cdraw" 2 ["feed","many"] aS){cE:Sp}(jC:Def P w K mg base "_law_cpairs" 1 ["many"] cE){cF:Sp}(jD:Def P w K mg base "_law_cshort" 1 ["rows"] cF)  {sp:Sp}(len:∀ vs H Q E,sp vs H Q E->vs.length=3)
  (rd:∀ vs H Q E,sp vs H Q E->oX K  aS cE cF { nx:=fun _ H'=>Q .non H',rt:=Q } (bD ["feed","least","most","many","way","top","rows","spots","i","j","found"] vs) H):FnOk P w K mg base CX0 3 f fd ["feed","least","most"] sp:=by
 refine F.ok mG len (fun cdv A outer s H vs Q E hr h=>⟨_,?_,rd vs H Q E h⟩)
 have nd:=mG.nd
 exact (@aA _ _ _ _ _ (@aY _ _ 3 _ _ _ _ nd rfl (Or.inr rfl) (@bI _ _ _ _ _ _ _ _ (bR (K:=K) rfl) (pv 1) (aU (cJ.mono (by decide)) hr rfl (@aB _ _ _ _ _ _ (pv 0) (@dU _ _ _ _ _ _ _ _ (@bI _ _ _ _ _ _ _ _ (bR (K:=K) rfl) (@bI _ _ _ _ _ _ _ _ mO (pv 2) (pv 1)) aI) aE)))) (by rfl) (by first | exact .inl rfl | exact .inr rfl | assumption)) (@aA _ _ _ _ _ (@aY _ _ 4 _ _ _ _ nd rfl (Or.inl rfl) (aU (cJ.mono (by decide)) hr rfl (@aB _ _ _ _ _ _ (pv 0) (@aV _ _ _ _ _ _ _ aI aE))) (by rfl) (by first | exact .inl rfl | exact .inr rfl | assumption)) (@aA _ _ _ _ _ (@aY _ _ 5 _ _ _ _ nd rfl (Or.inr rfl) (@bE _ _ _ _ _ _ _ (aQ (K:=K) rfl) (@dR _ _ _ _ (@aV _ _ _ _ _ _ _ aI (@aV _ _ _ _ _ _ _ aI (@aV _ _ _ _ _ _ _ aI (@aV _ _ _ _ _ _ _ aI aE))))) (aU (cJ.mono (by decide)) hr rfl (@aB _ _ _ _ _ _ (pv 0) (@aV _ _ _ _ _ _ _ aI aE))) (fun _ _=>rfl)) (by rfl) (by first | exact .inl rfl | exact .inr rfl | assumption)) (@aA _ _ _ _ _ (fK (i:=6) nd rfl (Or.inl rfl) (N':=["k","many"]) (ix:=[none,some 3]) rfl rfl rfl (cZ rfl B.range (@aB _ _ _ _ _ _ (pv 3) aE)) (fun _ _ _=>(aM (i:=0) (show (["k","many"]:List Str).Nodup from by decide +kernel) rfl (Or.inl rfl))) (fun _ _ _ => .nil) (fun _ _ _ _=>(bS rfl (@bI _ _ _ _ _ _ _ _ dB (@dR _ _ _ _ (@aV _ _ _ _ _ _ _ aI aE)) (pv 1)) rfl))) (@aA _ _ _ _ _ (fK (i:=7) nd rfl (Or.inl rfl) (N':=["k","feed","top"]) (ix:=[none,some 0,some 5]) rfl rfl rfl (cZ rfl B.range (@aB _ _ _ _ _ _ (pv 3) aE)) (fun _ _ _=>(aM (i:=0) (show (["k","feed","top"]:List Str).Nodup from by decide +kernel) rfl (Or.inl rfl))) (fun _ _ _ => .nil) (fun _ _ _ _=>(bS rfl (@cY _ _ _ _ _ (@bJ _ _ _ _ _ _ _ _ (aU (cJ.mono (by decide)) hr rfl (@aB _ _ _ _ _ _ (pv 1) (@aB _ _ _ _ _ _ (pv 2) aE))) (@bJ _ _ _ _ _ _ _ _ (aU (cJ.mono (by decide)) hr rfl (@aB _ _ _ _ _ _ (pv 1) (@aB _ _ _ _ _ _ (pv 2) aE))) aE))) rfl))) (@aA _ _ _ _ _ (gH ff rfl (cG (K:=K) rfl (aU (jC.mono (by decide)) hr rfl (@aB _ _ _ _ _ _ (pv 3) aE))) (cW (K:=K) rfl rfl (aR (aM (i:=8) nd rfl (Or.inl rfl)) (aR (aM (i:=9) nd rfl (Or.inl rfl)) cV))) (@aA _ _ _ _ _ (@aY _ _ 10 _ _ _ _ nd rfl (Or.inl rfl) (aU (cJ.mono (by decide)) hr rfl (@aB _ _ _ _ _ _ (pv 0) (@aB _ _ _ _ _ _ (pv 5) aE))) (by rfl) (by first | exact .inl rfl | exact .inr rfl | assumption)) (@aA _ _ _ _ _ (@eL _ _ _ _ _ _ _ _ (bN (fG (K:=K) rfl hr) (pv 4) aI (bK _)) (@aA _ _ _ _ _ (@aY _ _ 10 _ _ _ _ nd rfl (Or.inl rfl) (@bI _ _ _ _ _ _ _ _ dB (@bI _ _ _ _ _ _ _ _ kZ (pv 10) aI) (@bI _ _ _ _ _ _ _ _ mO (pv 5) aI)) (by rfl) (by first | exact .inl rfl | exact .inr rfl | assumption)) aH) aH) (@aA _ _ _ _ _ (@eL _ _ _ _ _ _ _ _ (PW.pt (mZ (bN (fG (K:=K) rfl hr) (pv 4) aI (bK _)) (jY (bN (fG (K:=K) rfl hr) (pv 4) aI (bK _))))) (@aA _ _ _ _ _ (@aY _ _ 10 _ _ _ _ nd rfl (Or.inl rfl) (aN mT rfl B.abs aBo (@dU _ _ _ _ _ _ _ _ (@bI _ _ _ _ _ _ _ _ mO (@bE _ _ _ _ _ _ _ (aQ (K:=K) rfl) (@bE _ _ _ _ _ _ _ (aQ (K:=K) rfl) (pv 7) (pv 8) (fun _ _=>rfl)) aI (fun _ _=>rfl)) (@bE _ _ _ _ _ _ _ (aQ (K:=K) rfl) (@bE _ _ _ _ _ _ _ (aQ (K:=K) rfl) (pv 7) (pv 9) (fun _ _=>rfl)) aI (fun _ _=>rfl))) aE)) (by rfl) (by first | exact .inl rfl | exact .inr rfl | assumption)) aH) aH) (@aA _ _ _ _ _ (@eL _ _ _ _ _ _ _ _ (bN (fG (K:=K) rfl hr) (pv 4) aI (bK _)) (@aA _ _ _ _ _ (@aY _ _ 10 _ _ _ _ nd rfl (Or.inl rfl) (@bI _ _ _ _ _ _ _ _ (bR (K:=K) rfl) (pv 10) (aN mT rfl B.abs aBo (@dU _ _ _ _ _ _ _ _ (@bI _ _ _ _ _ _ _ _ mO (@bE _ _ _ _ _ _ _ (aQ (K:=K) rfl) (@bE _ _ _ _ _ _ _ (aQ (K:=K) rfl) (pv 7) (pv 8) (fun _ _=>rfl)) aI (fun _ _=>rfl)) (@bE _ _ _ _ _ _ _ (aQ (K:=K) rfl) (@bE _ _ _ _ _ _ _ (aQ (K:=K) rfl) (pv 7) (pv 9) (fun _ _=>rfl)) aI (fun _ _=>rfl))) aE))) (by rfl) (by first | exact .inl rfl | exact .inr rfl | assumption)) aH) aH) (@aA _ _ _ _ _ (@eL _ _ _ _ _ _ _ _ (bN (fG (K:=K) rfl hr) (pv 4) aI (bK _)) (@aA _ _ _ _ _ (@aY _ _ 10 _ _ _ _ nd rfl (Or.inl rfl) (@bI _ _ _ _ _ _ _ _ mO (pv 5) aI) (by rfl) (by first | exact .inl rfl | exact .inr rfl | assumption)) aH) aH) (@aA _ _ _ _ _ (gY (aN (uU rfl) rfl B.min aGl (@aB _ _ _ _ _ _ (pv 10) (@dU _ _ _ _ _ _ _ _ (@bI _ _ _ _ _ _ _ _ aDc aI aI) aE))) (mH (@bE _ _ _ _ _ _ _ (aQ (K:=K) rfl) (pv 6) (pv 8) (fun _ _=>rfl)) (pv 9) fY)) (@aA _ _ _ _ _ (gY (@bE _ _ _ _ _ _ _ (aQ (K:=K) rfl) (@bE _ _ _ _ _ _ _ (aQ (K:=K) rfl) (pv 6) (pv 8) (fun _ _=>rfl)) (pv 9) (fun _ _=>rfl)) (mH (@bE _ _ _ _ _ _ _ (aQ (K:=K) rfl) (pv 6) (pv 9) (fun _ _=>rfl)) (pv 8) fY)) aH)))))))) (@aA _ _ _ _ _ (@eL _ _ _ _ _ _ _ _ (bN tX (pv 4) aI (bK _)) (@aA _ _ _ _ _ (@bL _ _ _ _ (aU (jD.mono (by decide)) hr rfl (@aB _ _ _ _ _ _ (pv 6) aE))) aH) aH) (@aA _ _ _ _ _ (@bL _ _ _ _ (dY (gG (K:=K) rfl) rfl B.tuple gX (cL (cK (N':=["row"]) (ix:=[none]) rfl rfl rfl (cG (K:=K) rfl (pv 6)) (fun _ _ _=>(aM (i:=0) (show (["row"]:List Str).Nodup from by decide +kernel) rfl (Or.inl rfl))) (fun _ _ _ => .nil) (fun _ _ _ _=>(bS rfl (dY (gG (K:=K) rfl) rfl B.tuple gX (@aB _ _ _ _ _ _ (pv 0) aE)) rfl))) aE))) aH))))))))
theorem jO:bC ["feed","table","i","j","number","row"] ["feed","table"] (aJ (top 56)):=⟨rfl,rfl,rfl,by decide +kernel,rfl,by decide +kernel,by decide +kernel⟩
def lM (K:aa)  (aS:Sp):TS:=(aP (bW (bG aS [] E0 (aC (aF 0) (aC (tCB (jM K) (aC (aF 1) aO)) aO))) (aK 2)) (aP (bW (tOp aAG (tOp (cM K) (tOp (cM K) (aF 2) (tC (.int 1))) (bG aS [] E0 (aC (aF 0) (aC (tOp pV (tCB (jM K) (aC (aF 1) aO)) (tC (.int 1))) aO)))) (tCB (jM K) (aC (aF 1) aO))) (aK 3)) (aP (bW (tOp pV (tOp (cM K) (tOp (bH K) (tOp (bH K) (aF 1) (aF 2)) (aF 3)) (tC (.int 1))) (tOp fL (tC (.int 2)) (tCB aHY (aC (tOp (iX K) (tOp (bH K) (tOp (bH K) (aF 1) (aF 2)) (aF 3)) (tOp aFu (tC (.int 10)) (tC (.int 6)))) aO)))) (aK 4)) (aP (bW (tOp (cM K) (tOp (cM K) (tSl (wI K) (tOp (bH K) (aF 1) (aF 2)) dX (iA (aF 3))) (iN (aC (aF 4) aO))) (tSl (wI K) (tOp (bH K) (aF 1) (aF 2)) (iA (tOp (cM K) (aF 3) (tC (.int 1)))) dX)) (aK 5)) (aP (eK (tOp (cM K) (tOp (cM K) (tSl (wI K) (aF 1) dX (iA (aF 2))) (iN (aC (aF 5) aO))) (tSl (wI K) (aF 1) (iA (tOp (cM K) (aF 2) (tC (.int 1)))) dX))) aL)))))
theorem rA (F:Fun K "_law_cuneven" "_law_cuneven" (top 56) f fd)(B:iC mg)    {aS:Sp}(cJ:Def P w K mg base "_law_cdraw" 2 ["feed","many"] aS)  {sp:Sp}(len:∀ vs H Q E,sp vs H Q E->vs.length=2)
  (rd:∀ vs H Q E,sp vs H Q E->lM K  aS { nx:=fun _ H'=>Q .non H',rt:=Q } (bD ["feed","table","i","j","number","row"] vs) H):FnOk P w K mg base CX0 3 f fd ["feed","table"] sp:=by
 refine F.ok jO len (fun cdv A outer s H vs Q E hr h=>⟨_,?_,rd vs H Q E h⟩)
 have nd:=jO.nd
 exact (@aA _ _ _ _ _ (@aY _ _ 2 _ _ _ _ nd rfl (Or.inl rfl) (aU (cJ.mono (by decide)) hr rfl (@aB _ _ _ _ _ _ (pv 0) (@bJ _ _ _ _ _ _ _ _ (aN (aX (K:=K) rfl) rfl B.len cS (@aB _ _ _ _ _ _ (pv 1) aE)) aE))) (by rfl) (by first | exact .inl rfl | exact .inr rfl | assumption)) (@aA _ _ _ _ _ (@aY _ _ 3 _ _ _ _ nd rfl (Or.inl rfl) (@bI _ _ _ _ _ _ _ _ kZ (@bI _ _ _ _ _ _ _ _ (bR (K:=K) rfl) (@bI _ _ _ _ _ _ _ _ (bR (K:=K) rfl) (pv 2) aI) (aU (cJ.mono (by decide)) hr rfl (@aB _ _ _ _ _ _ (pv 0) (@dU _ _ _ _ _ _ _ _ (@bI _ _ _ _ _ _ _ _ mO (aN (aX (K:=K) rfl) rfl B.len cS (@aB _ _ _ _ _ _ (pv 1) aE)) aI) aE)))) (aN (aX (K:=K) rfl) rfl B.len cS (@aB _ _ _ _ _ _ (pv 1) aE))) (by rfl) (by first | exact .inl rfl | exact .inr rfl | assumption)) (@aA _ _ _ _ _ (@aY _ _ 4 _ _ _ _ nd rfl (Or.inl rfl) (@bI _ _ _ _ _ _ _ _ mO (@bI _ _ _ _ _ _ _ _ (bR (K:=K) rfl) (@bE _ _ _ _ _ _ _ (aQ (K:=K) rfl) (@bE _ _ _ _ _ _ _ (aQ (K:=K) rfl) (pv 1) (pv 2) (fun _ _=>rfl)) (pv 3) (fun _ _=>rfl)) aI) (@bI _ _ _ _ _ _ _ _ dB aI (dY aCk rfl B.int aGn (cL (dL (fG (K:=K) rfl hr) (@bE _ _ _ _ _ _ _ (aQ (K:=K) rfl) (@bE _ _ _ _ _ _ _ (aQ (K:=K) rfl) (pv 1) (pv 2) (fun _ _=>rfl)) (pv 3) (fun _ _=>rfl)) (@bI _ _ _ _ _ _ _ _ aDc aI aI) (bK _)) aE)))) (by rfl) (by first | exact .inl rfl | exact .inr rfl | assumption)) (@aA _ _ _ _ _ (@aY _ _ 5 _ _ _ _ nd rfl (Or.inl rfl) (@bI _ _ _ _ _ _ _ _ (bR (K:=K) rfl) (@bI _ _ _ _ _ _ _ _ (bR (K:=K) rfl) (eO (qD (K:=K) rfl) (@bE _ _ _ _ _ _ _ (aQ (K:=K) rfl) (pv 1) (pv 2) (fun _ _=>rfl)) hZ (eU (pv 3))) (@cY _ _ _ _ _ (@aB _ _ _ _ _ _ (pv 4) aE))) (eO (qD (K:=K) rfl) (@bE _ _ _ _ _ _ _ (aQ (K:=K) rfl) (pv 1) (pv 2) (fun _ _=>rfl)) (eU (@bI _ _ _ _ _ _ _ _ (bR (K:=K) rfl) (pv 3) aI)) hZ)) (by rfl) (by first | exact .inl rfl | exact .inr rfl | assumption)) (@aA _ _ _ _ _ (@bL _ _ _ _ (@bI _ _ _ _ _ _ _ _ (bR (K:=K) rfl) (@bI _ _ _ _ _ _ _ _ (bR (K:=K) rfl) (eO (qD (K:=K) rfl) (pv 1) hZ (eU (pv 2))) (@cY _ _ _ _ _ (@aB _ _ _ _ _ _ (pv 5) aE))) (eO (qD (K:=K) rfl) (pv 1) (eU (@bI _ _ _ _ _ _ _ _ (bR (K:=K) rfl) (pv 2) aI)) hZ))) aH)))))
theorem jF:bC ["act","caught","kinds","others","e"] ["act"] (aJ (top 57)):=⟨rfl,rfl,rfl,by decide +kernel,rfl,by decide +kernel,by decide +kernel⟩
def kB (K:aa) (fo:Addr->Sp->Prop) (C_NoBack:Addr) (C_NoRow:Addr) (C_NoTable:Addr) (C_NoText:Addr) (C_NotEven:Addr) (C_NotStraight:Addr) (C_RoundError:Addr) (C_TooFew:Addr) (C_TooMany:Addr)  : TS:=(aP (bW (tC .non) (aK 1)) (aP (aKA K C_RoundError 4 5 (fun E=>(aP (fV (bU (tOp (iX K) (tCB (jM K) (aC (aF 0) aO)) (tC (.int 2)))) (aP (nP (aBF fo E (tOp (bH K) (aF 0) (tC (.int 0))) (aC (tOp (bH K) (aF 0) (tC (.int 1))) aO))) aL) (aP (fV (bU (tOp (iX K) (tCB (jM K) (aC (aF 0) aO)) (tC (.int 3)))) (aP (nP (aBF fo E (tOp (bH K) (aF 0) (tC (.int 0))) (aC (tOp (bH K) (aF 0) (tC (.int 1))) (aC (tOp (bH K) (aF 0) (tC (.int 2))) aO)))) aL) (aP (nP (aBF fo E (tOp (bH K) (aF 0) (tC (.int 0))) (aC (tOp (bH K) (aF 0) (tC (.int 1))) (aC (tOp (bH K) (aF 0) (tC (.int 2))) (aC (tOp (bH K) (aF 0) (tC (.int 3))) aO))))) aL)) aL)) aL)) (aP (bW (aF 4) (aK 1)) aL)) (aP (fV (bU (tOp aJW (aF 1) (tC .non))) (aP (eK (tC (.str ""))) aL) aL) (aP (bW (lX (aC (tCB (aBl K) (aC (aF 1) (aC (tC (.ref C_NotEven)) aO))) (aC (tCB (aBl K) (aC (aF 1) (aC (tC (.ref C_NotStraight)) aO))) aO))) (aK 2)) (aP (bW (tOp (cM K) (aF 2) (lX (aC (tCB (aBl K) (aC (aF 1) (aC (tC (.ref C_TooFew)) aO))) (aC (tCB (aBl K) (aC (aF 1) (aC (tC (.ref C_TooMany)) aO))) aO)))) (aK 2)) (aP (bW (tCB (aBl K) (aC (aF 1) (aC (iN (aC (tC (.ref C_NoBack)) (aC (tC (.ref C_NoRow)) (aC (tC (.ref C_NoTable)) (aC (tC (.ref C_NoText)) aO))))) aO))) (aK 3)) (aP (fV (tOr (bU (tOp (aBK K) (tBM K "list" aLa (aF 2) (aC (tC (.bl true)) aO)) (tC (.int 1)))) (tOr (aKU K (aF 3)) (aAO (tB (tCB (aBl K) (aC (aF 1) (aC (tC (.ty "ValueError")) aO))))))) (aP (eK (tC (.str "odd"))) aL) aL) (aP (eK (tOp (bH K) (lX (aC (tC (.str "even")) (aC (tC (.str "straight")) (aC (tC (.str "few")) (aC (tC (.str "many")) aO))))) (tBM K "list" aKT (aF 2) (aC (tC (.bl true)) aO)))) aL))))))))
theorem qE (F:Fun K "_law_crefused" "_law_crefused" (top 57) f fd)(B:iC mg)  {fo:Addr->Sp->Prop}(HV:∀ f sp,fo f sp->DefV P w K mg base 5 f sp){C_NoBack:Addr}(GC_NoBack:mg "NoBack" = some (.ref C_NoBack)){C_NoRow:Addr}(GC_NoRow:mg "NoRow" = some (.ref C_NoRow)){C_NoTable:Addr}(GC_NoTable:mg "NoTable" = some (.ref C_NoTable)){C_NoText:Addr}(GC_NoText:mg "NoText" = some (.ref C_NoText)){C_NotEven:Addr}(GC_NotEven:mg "NotEven" = some (.ref C_NotEven)){C_NotStraight:Addr}(GC_NotStraight:mg "NotStraight" = some (.ref C_NotStraight)){C_RoundError:Addr}(GC_RoundError:mg "RoundError" = some (.ref C_RoundError)){C_TooFew:Addr}(GC_TooFew:mg "TooFew" = some (.ref C_TooFew)){C_TooMany:Addr}(GC_TooMany:mg "TooMany" = some (.ref C_TooMany))  (GV:mg "ValueError" = none)   {sp:Sp}(len:∀ vs H Q E,sp vs H Q E->vs.length=1)
  (rd:∀ vs H Q E,sp vs H Q E->kB K fo C_NoBack C_NoRow C_NoTable C_NoText C_NotEven C_NotStraight C_RoundError C_TooFew C_TooMany  { nx:=fun _ H'=>Q .non H',rt:=Q } (bD ["act","caught","kinds","others","e"] vs) H):FnOk P w K mg base CX0 6 f fd ["act"] sp:=by
 refine F.ok jF len (fun cdv A outer s H vs Q E hr h=>⟨_,?_,rd vs H Q E h⟩)
 have nd:=jF.nd
 exact (@aA _ _ _ _ _ (@aY _ _ 1 _ _ _ _ nd rfl (Or.inl rfl) rC (by rfl) (by first | exact .inl rfl | exact .inr rfl | assumption)) (@aA _ _ _ _ _ (aGX (K:=K) (ie:=4) (ln:=5) rfl rfl rfl rfl nd rfl rfl rfl GC_RoundError (fun pn W E hx=>(@aA _ _ _ _ _ (@eL _ _ _ _ _ _ _ _ (PT.nox (bN (fG (K:=K) rfl hr) (aN (aX (K:=K) rfl) rfl B.len cS (@aB _ _ _ _ _ _ (pv 0) aE)) aI (bK _))) (@aA _ _ _ _ _ (gO (wS (fun f sp h=>(HV f sp h).mono (by decide)) hr hx (@bE _ _ _ _ _ _ _ (aQ (K:=K) rfl) (pv 0) aI (fun _ _=>rfl)) (@cQ _ _ _ _ _ _ _ (@bE _ _ _ _ _ _ _ (aQ (K:=K) rfl) (pv 0) aI (fun _ _=>rfl)) aE))) aH) (@aA _ _ _ _ _ (@eL _ _ _ _ _ _ _ _ (PT.nox (bN (fG (K:=K) rfl hr) (aN (aX (K:=K) rfl) rfl B.len cS (@aB _ _ _ _ _ _ (pv 0) aE)) aI (bK _))) (@aA _ _ _ _ _ (gO (wS (fun f sp h=>(HV f sp h).mono (by decide)) hr hx (@bE _ _ _ _ _ _ _ (aQ (K:=K) rfl) (pv 0) aI (fun _ _=>rfl)) (@cQ _ _ _ _ _ _ _ (@bE _ _ _ _ _ _ _ (aQ (K:=K) rfl) (pv 0) aI (fun _ _=>rfl)) (@cQ _ _ _ _ _ _ _ (@bE _ _ _ _ _ _ _ (aQ (K:=K) rfl) (pv 0) aI (fun _ _=>rfl)) aE)))) aH) (@aA _ _ _ _ _ (gO (wS (fun f sp h=>(HV f sp h).mono (by decide)) hr hx (@bE _ _ _ _ _ _ _ (aQ (K:=K) rfl) (pv 0) aI (fun _ _=>rfl)) (@cQ _ _ _ _ _ _ _ (@bE _ _ _ _ _ _ _ (aQ (K:=K) rfl) (pv 0) aI (fun _ _=>rfl)) (@cQ _ _ _ _ _ _ _ (@bE _ _ _ _ _ _ _ (aQ (K:=K) rfl) (pv 0) aI (fun _ _=>rfl)) (@cQ _ _ _ _ _ _ _ (@bE _ _ _ _ _ _ _ (aQ (K:=K) rfl) (pv 0) aI (fun _ _=>rfl)) aE))))) aH)) aH)) aH)) (fun pn a=>(@aA _ _ _ _ _ (@aY _ _ 1 _ _ _ _ nd rfl (Or.inl rfl) (pv 4) (by rfl) (by first | exact .inl rfl | exact .inr rfl | assumption)) aH))) (@aA _ _ _ _ _ (@eL _ _ _ _ _ _ _ _ (bN aFZ (pv 1) rC (bK _)) (@aA _ _ _ _ _ (@bL _ _ _ _ lI) aH) aH) (@aA _ _ _ _ _ (@aY _ _ 2 _ _ _ _ nd rfl (Or.inl rfl) (@dR _ _ _ _ (@bJ _ _ _ _ _ _ _ _ (aN (iI (K:=K) rfl) rfl B.isi jZ (@aB _ _ _ _ _ _ (pv 1) (@aB _ _ _ _ _ _ (dW (v := .ref C_NotEven) rfl GC_NotEven rfl) aE))) (@bJ _ _ _ _ _ _ _ _ (aN (iI (K:=K) rfl) rfl B.isi jZ (@aB _ _ _ _ _ _ (pv 1) (@aB _ _ _ _ _ _ (dW (v := .ref C_NotStraight) rfl GC_NotStraight rfl) aE))) aE))) (by rfl) (by first | exact .inl rfl | exact .inr rfl | assumption)) (@aA _ _ _ _ _ (@aY _ _ 2 _ _ _ _ nd rfl (Or.inl rfl) (@bI _ _ _ _ _ _ _ _ (bR (K:=K) rfl) (pv 2) (@dR _ _ _ _ (@bJ _ _ _ _ _ _ _ _ (aN (iI (K:=K) rfl) rfl B.isi jZ (@aB _ _ _ _ _ _ (pv 1) (@aB _ _ _ _ _ _ (dW (v := .ref C_TooFew) rfl GC_TooFew rfl) aE))) (@bJ _ _ _ _ _ _ _ _ (aN (iI (K:=K) rfl) rfl B.isi jZ (@aB _ _ _ _ _ _ (pv 1) (@aB _ _ _ _ _ _ (dW (v := .ref C_TooMany) rfl GC_TooMany rfl) aE))) aE)))) (by rfl) (by first | exact .inl rfl | exact .inr rfl | assumption)) (@aA _ _ _ _ _ (@aY _ _ 3 _ _ _ _ nd rfl (Or.inl rfl) (aN (iI (K:=K) rfl) rfl B.isi jZ (@aB _ _ _ _ _ _ (pv 1) (@cU _ _ _ _ _ _ _ (@cY _ _ _ _ _ (@aB _ _ _ _ _ _ (dW (v := .ref C_NoBack) rfl GC_NoBack rfl) (@aB _ _ _ _ _ _ (dW (v := .ref C_NoRow) rfl GC_NoRow rfl) (@aB _ _ _ _ _ _ (dW (v := .ref C_NoTable) rfl GC_NoTable rfl) (@aB _ _ _ _ _ _ (dW (v := .ref C_NoText) rfl GC_NoText rfl) aE))))) aE))) (by rfl) (by first | exact .inl rfl | exact .inr rfl | assumption)) (@aA _ _ _ _ _ (@eL _ _ _ _ _ _ _ _ (PW.pt (mZ (bN (nC (K:=K) rfl hr) (uM (K:=K) rfl i5 PySem.F.slot_list_count PySem.F.type_list_count aIh (pv 2) (@aV _ _ _ _ _ _ _ mI aE)) aI (bK _)) (mZ (aHj (K:=K) rfl (pv 3) (fun _=>rfl)) (jY (iF (eY (aN (iI (K:=K) rfl) rfl B.isi jZ (@aB _ _ _ _ _ _ (pv 1) (@aB _ _ _ _ _ _ (oH (v := .ty "ValueError") rfl GV xI rfl) aE))))))))) (@aA _ _ _ _ _ (@bL _ _ _ _ lI) aH) aH) (@aA _ _ _ _ _ (@bL _ _ _ _ (@bE _ _ _ _ _ _ _ (aQ (K:=K) rfl) (@dR _ _ _ _ (@aV _ _ _ _ _ _ _ lI (@aV _ _ _ _ _ _ _ lI (@aV _ _ _ _ _ _ _ lI (@aV _ _ _ _ _ _ _ lI aE))))) (uM (K:=K) rfl i5 PySem.F.slot_list_index PySem.F.type_list_index aJl (pv 2) (@aV _ _ _ _ _ _ _ mI aE)) (fun _ _=>rfl))) aH))))))))
theorem jP:bC ["table","found","some","thing","worth"] ["table"] (aJ (top 58)):=⟨rfl,rfl,rfl,by decide +kernel,rfl,by decide +kernel,by decide +kernel⟩
def lB (K:aa) (C_are_cuts:Addr) (C_are_shares:Addr) (C_best_prices:Addr) (C_shares:Addr) (cR:Sp):TS:=(aP (bW (lX (aC (bG cR [] E0 (aC (iN (aC (tC (.ref C_shares)) (aC (aF 0) aO))) aO)) (aC (bG cR [] E0 (aC (iN (aC (tC (.ref C_best_prices)) (aC (aF 0) aO))) aO)) aO))) (aK 1)) (aP (bW (lX (aC (lX aO) (aC (lX (aC (tC .non) aO)) (aC (lX (aC (iN (aC (tC (.int 0)) (aC (tC (.int 1)) (aC (iN (aC (tC (.int 1)) (aC (tC (.int 1)) aO))) aO)))) aO)) (aC (lX (aC (iN (aC (iN (aC (tC (.int 0)) aO)) (aC (iN (aC (tC (.int 1)) (aC (tC (.int 2)) aO))) aO))) aO)) (aC (lX (aC (iN (aC (tC (.int 1)) (aC (tC (.int 0)) (aC (iN (aC (tC (.int 0)) (aC (tC (.int 1)) aO))) aO)))) aO)) (aC (lX (aC (tC (.int 7)) aO)) aO))))))) (aK 2)) (aP (tK (lG K (aF 2)) (aK 3) (aP (tK (lG K (lX (aC (iN (aC (tC (.int 0)) (aC (tC (.int 1)) aO))) (aC (iN (aC (tC (.int 5)) (aC (tC (.int 2)) aO))) aO)))) (aK 4) (aP (nP (tBM K "list" nY (aF 1) (aC (bG cR [] E0 (aC (iN (aC (tC (.ref C_are_shares)) (aC (aF 0) (aC (tCB (aCg K) (aC (aF 3) aO)) (aC (aF 4) aO))))) aO)) aO))) (aP (nP (tBM K "list" nY (aF 1) (aC (bG cR [] E0 (aC (iN (aC (tC (.ref C_are_cuts)) (aC (aF 0) (aC (tCB (aCg K) (aC (aF 3) aO)) (aC (aF 4) aO))))) aO)) aO))) aL))) aL)) (aP (eK (tCB (aLn K) (aC (aF 1) aO))) aL))))
theorem qZ (F:Fun K "_law_c_words" "_law_c_words" (top 58) f fd)(B:iC mg)  {C_are_cuts:Addr}(GC_are_cuts:mg "are_cuts" = some (.ref C_are_cuts)){C_are_shares:Addr}(GC_are_shares:mg "are_shares" = some (.ref C_are_shares)){C_best_prices:Addr}(GC_best_prices:mg "best_prices" = some (.ref C_best_prices)){C_shares:Addr}(GC_shares:mg "shares" = some (.ref C_shares))  {cR:Sp}(dH:Def P w K mg base "_law_crefused" 6 ["act"] cR)  {sp:Sp}(len:∀ vs H Q E,sp vs H Q E->vs.length=1)
  (rd:∀ vs H Q E,sp vs H Q E->lB K C_are_cuts C_are_shares C_best_prices C_shares cR { nx:=fun _ H'=>Q .non H',rt:=Q } (bD ["table","found","some","thing","worth"] vs) H):FnOk P w K mg base CX0 7 f fd ["table"] sp:=by
 refine F.ok jP len (fun cdv A outer s H vs Q E hr h=>⟨_,?_,rd vs H Q E h⟩)
 have nd:=jP.nd
 exact (@aA _ _ _ _ _ (@aY _ _ 1 _ _ _ _ nd rfl (Or.inl rfl) (@dR _ _ _ _ (@bJ _ _ _ _ _ _ _ _ (aU (dH.mono (by decide)) hr rfl (@cU _ _ _ _ _ _ _ (@cY _ _ _ _ _ (@aB _ _ _ _ _ _ (dW (v := .ref C_shares) rfl GC_shares rfl) (@aB _ _ _ _ _ _ (pv 0) aE))) aE)) (@bJ _ _ _ _ _ _ _ _ (aU (dH.mono (by decide)) hr rfl (@cU _ _ _ _ _ _ _ (@cY _ _ _ _ _ (@aB _ _ _ _ _ _ (dW (v := .ref C_best_prices) rfl GC_best_prices rfl) (@aB _ _ _ _ _ _ (pv 0) aE))) aE)) aE))) (by rfl) (by first | exact .inl rfl | exact .inr rfl | assumption)) (@aA _ _ _ _ _ (@aY _ _ 2 _ _ _ _ nd rfl (Or.inl rfl) (@dR _ _ _ _ (@kL _ _ _ _ _ _ (@dR _ _ _ _ aE) (@kL _ _ _ _ _ _ (@dR _ _ _ _ (@aV _ _ _ _ _ _ _ rC aE)) (@kL _ _ _ _ _ _ (@dR _ _ _ _ (@cU _ _ _ _ _ _ _ (@cY _ _ _ _ _ (@aV _ _ _ _ _ _ _ aI (@aV _ _ _ _ _ _ _ aI (@cU _ _ _ _ _ _ _ (@cY _ _ _ _ _ (@aV _ _ _ _ _ _ _ aI (@aV _ _ _ _ _ _ _ aI aE))) aE)))) aE)) (@kL _ _ _ _ _ _ (@dR _ _ _ _ (@cU _ _ _ _ _ _ _ (@cY _ _ _ _ _ (@cU _ _ _ _ _ _ _ (@cY _ _ _ _ _ (@aV _ _ _ _ _ _ _ aI aE)) (@cU _ _ _ _ _ _ _ (@cY _ _ _ _ _ (@aV _ _ _ _ _ _ _ aI (@aV _ _ _ _ _ _ _ aI aE))) aE))) aE)) (@kL _ _ _ _ _ _ (@dR _ _ _ _ (@cU _ _ _ _ _ _ _ (@cY _ _ _ _ _ (@aV _ _ _ _ _ _ _ aI (@aV _ _ _ _ _ _ _ aI (@cU _ _ _ _ _ _ _ (@cY _ _ _ _ _ (@aV _ _ _ _ _ _ _ aI (@aV _ _ _ _ _ _ _ aI aE))) aE)))) aE)) (@kL _ _ _ _ _ _ (@dR _ _ _ _ (@aV _ _ _ _ _ _ _ aI aE)) aE))))))) (by rfl) (by first | exact .inl rfl | exact .inr rfl | assumption)) (@aA _ _ _ _ _ (gH ff rfl (cG (K:=K) rfl (pv 2)) (aM (i:=3) nd rfl (Or.inl rfl)) (@aA _ _ _ _ _ (@gH _ _ _ _ _ _ _ _ ff rfl (@cG _ K _ _ _ rfl (@dR _ _ _ _ (@cU _ _ _ _ _ _ _ (@cY _ _ _ _ _ (@aV _ _ _ _ _ _ _ aI (@aV _ _ _ _ _ _ _ aI aE))) (@cU _ _ _ _ _ _ _ (@cY _ _ _ _ _ (@aV _ _ _ _ _ _ _ aI (@aV _ _ _ _ _ _ _ aI aE))) aE)))) (aM (i:=4) nd rfl (Or.inl rfl)) (@aA _ _ _ _ _ (gO (uM (K:=K) rfl i5 kn kq kC (pv 1) (@bJ _ _ _ _ _ _ _ _ (aU (dH.mono (by decide)) hr rfl (@cU _ _ _ _ _ _ _ (@cY _ _ _ _ _ (@aB _ _ _ _ _ _ (dW (v := .ref C_are_shares) rfl GC_are_shares rfl) (@aB _ _ _ _ _ _ (pv 0) (@bJ _ _ _ _ _ _ _ _ (dY (kP (K:=K) rfl rfl) rfl B.list vT (@aB _ _ _ _ _ _ (pv 3) aE)) (@aB _ _ _ _ _ _ (pv 4) aE))))) aE)) aE))) (@aA _ _ _ _ _ (gO (uM (K:=K) rfl i5 kn kq kC (pv 1) (@bJ _ _ _ _ _ _ _ _ (aU (dH.mono (by decide)) hr rfl (@cU _ _ _ _ _ _ _ (@cY _ _ _ _ _ (@aB _ _ _ _ _ _ (dW (v := .ref C_are_cuts) rfl GC_are_cuts rfl) (@aB _ _ _ _ _ _ (pv 0) (@bJ _ _ _ _ _ _ _ _ (dY (kP (K:=K) rfl rfl) rfl B.list vT (@aB _ _ _ _ _ _ (pv 3) aE)) (@aB _ _ _ _ _ _ (pv 4) aE))))) aE)) aE))) aH)) (by intro _;rfl)) aH)) (@aA _ _ _ _ _ (@bL _ _ _ _ (aJb (K:=K) rfl rfl rfl B.sorted xW rfl B.set aIO (@aB _ _ _ _ _ _ (pv 1) aE))) aH))))
theorem aGj:bC ["script","feed","turn_v","table","due"] ["script"] (aJ (top 59)):=⟨rfl,rfl,rfl,by decide +kernel,rfl,by decide +kernel,by decide +kernel⟩
def aIN (K:aa)  (dZ:Sp) (gC:Sp) (gD:Sp) (fB:Sp):TS:=(aP (bW (bG gD [] E0 (aC (aF 0) aO)) (aK 1)) (aP (tK (kD (aC (tC (.int 3)) aO)) (aK 2) (aP (bW (bG gC [] E0 (aC (aF 1) (aC (tC (.int 1)) (aC (tC (.int 8)) aO)))) (aK 3)) (aP (bW (tC (.str "")) (aK 4)) (aP (fV (bU (tOp yLt (tCB (jM K) (aC (aF 3) aO)) (tC (.int 3)))) (aP (bW (tC (.str "few")) (aK 4)) aL) aL) (aP (fV (bU (tOp yGt (tCB (jM K) (aC (aF 3) aO)) (tC (.int 6)))) (aP (bW (tC (.str "many")) (aK 4)) aL) aL) (aP (fV (bU (tOp (aBK K) (bG dZ [] E0 (aC (aF 3) aO)) (lX (aC (aF 4) aO)))) (aP (eK (tC (.bl false))) aL) aL) (aP (fV (aFR (bU (tOp yGt (tCB (jM K) (aC (aF 3) aO)) (tC (.int 1)))) (bU (tOp (aBK K) (bG dZ [] E0 (aC (bG fB [] E0 (aC (aF 1) (aC (aF 3) aO))) aO)) (lX (aC (tC (.str "even")) aO))))) (aP (eK (tC (.bl false))) aL) aL) aL))))))) (aP (eK (tC (.bl true))) aL)))
theorem aIB (F:Fun K "law" "law" (top 59) f fd)(B:iC mg)    {dZ:Sp}(fS:Def P w K mg base "_law_c_words" 7 ["table"] dZ){gC:Sp}(kI:Def P w K mg base "_law_ceven" 3 ["feed","least","most"] gC){gD:Sp}(kJ:Def P w K mg base "_law_copen" 1 ["script"] gD){fB:Sp}(iE:Def P w K mg base "_law_cuneven" 3 ["feed","table"] fB)  {sp:Sp}(len:∀ vs H Q E,sp vs H Q E->vs.length=1)
  (rd:∀ vs H Q E,sp vs H Q E->aIN K  dZ gC gD fB { nx:=fun _ H'=>Q .non H',rt:=Q } (bD ["script","feed","turn_v","table","due"] vs) H):FnOk P w K mg base CX0 8 f fd ["script"] sp:=by
 refine F.ok aGj len (fun cdv A outer s H vs Q E hr h=>⟨_,?_,rd vs H Q E h⟩)
 have nd:=aGj.nd
 exact (@aA _ _ _ _ _ (@aY _ _ 1 _ _ _ _ nd rfl (Or.inl rfl) (aU (kJ.mono (by decide)) hr rfl (@aB _ _ _ _ _ _ (pv 0) aE)) (by rfl) (by first | exact .inl rfl | exact .inr rfl | assumption)) (@aA _ _ _ _ _ (gH ff rfl (cZ rfl B.range (@aV _ _ _ _ _ _ _ aI aE)) (aM (i:=2) nd rfl (Or.inl rfl)) (@aA _ _ _ _ _ (@aY _ _ 3 _ _ _ _ nd rfl (Or.inl rfl) (aU (kI.mono (by decide)) hr rfl (@aB _ _ _ _ _ _ (pv 1) (@aV _ _ _ _ _ _ _ aI (@aV _ _ _ _ _ _ _ aI aE)))) (by rfl) (by first | exact .inl rfl | exact .inr rfl | assumption)) (@aA _ _ _ _ _ (@aY _ _ 4 _ _ _ _ nd rfl (Or.inl rfl) lI (by rfl) (by first | exact .inl rfl | exact .inr rfl | assumption)) (@aA _ _ _ _ _ (@eL _ _ _ _ _ _ _ _ (bN mX (aN (aX (K:=K) rfl) rfl B.len cS (@aB _ _ _ _ _ _ (pv 3) aE)) aI (bK _)) (@aA _ _ _ _ _ (@aY _ _ 4 _ _ _ _ nd rfl (Or.inl rfl) lI (by rfl) (by first | exact .inl rfl | exact .inr rfl | assumption)) aH) aH) (@aA _ _ _ _ _ (@eL _ _ _ _ _ _ _ _ (bN tX (aN (aX (K:=K) rfl) rfl B.len cS (@aB _ _ _ _ _ _ (pv 3) aE)) aI (bK _)) (@aA _ _ _ _ _ (@aY _ _ 4 _ _ _ _ nd rfl (Or.inl rfl) lI (by rfl) (by first | exact .inl rfl | exact .inr rfl | assumption)) aH) aH) (@aA _ _ _ _ _ (@eL _ _ _ _ _ _ _ _ (bN (nC (K:=K) rfl hr) (aU (fS.mono (by decide)) hr rfl (@aB _ _ _ _ _ _ (pv 3) aE)) (@dR _ _ _ _ (@aB _ _ _ _ _ _ (pv 4) aE)) (bK _)) (@aA _ _ _ _ _ (@bL _ _ _ _ mI) aH) aH) (@aA _ _ _ _ _ (@eL _ _ _ _ _ _ _ _ (PW.pt (zE (bN tX (aN (aX (K:=K) rfl) rfl B.len cS (@aB _ _ _ _ _ _ (pv 3) aE)) aI (bK _)) (sR (bN (nC (K:=K) rfl hr) (aU (fS.mono (by decide)) hr rfl (@bJ _ _ _ _ _ _ _ _ (aU (iE.mono (by decide)) hr rfl (@aB _ _ _ _ _ _ (pv 1) (@aB _ _ _ _ _ _ (pv 3) aE))) aE)) (@dR _ _ _ _ (@aV _ _ _ _ _ _ _ lI aE)) (bK _))))) (@aA _ _ _ _ _ (@bL _ _ _ _ mI) aH) aH) aH))))))) (@aA _ _ _ _ _ (@bL _ _ _ _ mI) aH)))
end
def gd (i j:Int):Int:=((i.gcd j:Nat):Int)
theorem oZ {i j:Int}(h:0<j):0<gd i j:=by
 unfold gd
 have:0<i.gcd j:=Int.gcd_pos_of_ne_zero_right i (by omega)
 omega
theorem rQ {i j:Int}(h:0<j):i=gd i j*(i / gd i j)/\j=gd i j*(j / gd i j)/\0<j / gd i j/\(i / gd i j).gcd (j / gd i j)=1:=by
 have g0:=oZ (i:=i) h
 have d1:gd i j ∣ i:=Int.gcd_dvd_left i j
 have d2:gd i j ∣ j:=Int.gcd_dvd_right i j
 have e2:j=gd i j*(j / gd i j):=(w8 d2).symm
 refine ⟨(w8 d1).symm,e2,?_,?_⟩
 ·apply d8
  intro hn
  have:=Int.mul_nonpos_of_nonneg_of_nonpos (show 0<=gd i j by omega) (show j / gd i j<=0 by omega)
  omega
 ·exact Int.gcd_ediv_gcd_ediv_gcd (by unfold gd at g0;omega)
theorem aAv {a b d:Int}(h:b ∣ a*d)(g:a.gcd b=1):b ∣ d:=by
 have h1:b.natAbs ∣ a.natAbs*d.natAbs:=by rw[<- t7];exact wg.mpr h
 have h2:Nat.Coprime b.natAbs a.natAbs:=by unfold Nat.Coprime;rw[yy];exact g
 exact wg.mp (Nat.Coprime.dvd_of_dvd_mul_left h2 h1)
theorem aIs {a b c d:Int}(hb:0<b)(hd:0<d)(h:a*d=c*b):a / gd a b=c / gd c d/\b / gd a b=d / gd c d:=by
 obtain⟨e1,e2,p1,q1⟩:=rQ (i:=a) hb
 obtain⟨e3,e4,p2,q2⟩:=rQ (i:=c) hd
 have g1:=oZ (i:=a) hb
 have g2:=oZ (i:=c) hd
 generalize gd a b=g at *
 generalize gd c d=k at *
 generalize a / g=a' at *
 generalize b / g=b' at *
 generalize c / k=c' at *
 generalize d / k=d' at *
 have h1:a'*d'=c'*b':=by
  have:(g*k)*(a'*d')=(g*k)*(c'*b'):=by
   have l:(g*k)*(a'*d')=a*d:=by rw[e1,e4];simp only [fk,gh,ez]
   have r:(g*k)*(c'*b')=c*b:=by rw[e3,e2];simp only [fk,gh,ez]
   rw[l,r,h]
  exact t8 (by have:=q9 g1 g2;omega) this
 have v1:b' ∣ d':=by
  have:b' ∣ a'*d':=⟨c',by rw[h1,ez]⟩
  exact aAv this q1
 have v2:d' ∣ b':=by
  have:d' ∣ c'*b':=⟨a',by rw[<- h1,ez]⟩
  exact aAv this q2
 have e:b'=d':=wj (vb p2 v1) (vb p1 v2)
 subst e
 exact ⟨Int.eq_of_mul_eq_mul_right (by omega) h1,rfl⟩
theorem aBB {x y:Int}{a b:Nat}(hx:x.natAbs<2 ^ a)(hy:y.natAbs<2 ^ b):(x*y).natAbs<2 ^ (a+b):=by
 rw[t7,Nat.pow_add]
 exact Nat.mul_lt_mul'' hx hy
theorem aHL {i j:Int}{a:Nat}(h:0<j)(hi:i.natAbs<2 ^ a):(i / gd i j).natAbs<2 ^ a:=by
 obtain⟨e1,_⟩:=rQ (i:=i) h
 have g0:=oZ (i:=i) h
 have:i.natAbs=(gd i j).natAbs*(i / gd i j).natAbs:=by rw[<- t7,<- e1]
 have:(i / gd i j).natAbs<=i.natAbs:=by
  rw[this]
  exact Nat.le_mul_of_pos_left _ (by omega)
 omega
theorem aKr {x:Int}{a b:Nat}(hx:x.natAbs<2 ^ a)(h:a<=b):x.natAbs<2 ^ b:=aw hx (cg (by decide) h)
section
variable {K:aa}
def aHF:Sp:=fun vs H Q _=>∃ i j:Int,vs=[.int i, .int j]/\Q (.int (gd i j)) H
theorem aLB (i:Int):(if i<0 then -i else i)=((i.natAbs:Nat):Int):=by split <;> omega
theorem aLL {a b:Nat}:((a:Int) % (b:Int))=((a % b:Nat):Int):=(Int.natCast_emod a b).symm
theorem aKz:∀ vs H Q E,aHF vs H Q E->jK K { nx:=fun _ H'=>Q .non H',rt:=Q } (bD ["one","other","left"] vs) H:=by
 intro vs H Q E h
 obtain⟨i,j,rfl,q⟩:=h
 refine ⟨_,rfl,i,rfl,?_⟩
 refine ⟨_,rfl,j,rfl,?_⟩
 refine ⟨fun m σ' H'=>H'=H/\∃ (a b:Nat) (x2:Option V),σ'=[some (.int (a:Int)),some (.int (b:Int)),x2]/\b=m/\Nat.gcd a b=i.gcd j,⟨j.natAbs,rfl,i.natAbs,j.natAbs,none,by rw[aLB,aLB];rfl,rfl,rfl⟩,?_⟩
 rintro m σ' H' ⟨rfl,a,b,x2,rfl,rfl,hg⟩
 refine ⟨_,rfl,_,_,rfl,rfl,_,rfl,?_⟩
 by_cases c:0<b
 ·refine dJ (decide_eq_true (by omega)) ⟨fun σ2 H2=>H2=H'/\∃ (a' b':Nat) (x2:Option V),σ2=[some (.int (a':Int)),some (.int (b':Int)),x2]/\b'<b/\Nat.gcd a' b'=i.gcd j,fun σ2 H2 ⟨e,a',b',x2,e1,e2,e3⟩=>⟨b',e2,e,a',b',x2,e1,rfl,e3⟩,?_⟩
  refine ⟨_,rfl,_,rfl,_,_,rfl,rfl,by show (0:Int)<(b:Int);omega,_,rfl,_,rfl,rfl,b,a % b,some (.int ((a % b:Nat):Int)),?_,Nat.mod_lt _ c,?_⟩
  ·show [some (V.int (b:Int)),some (V.int ((a:Int) % (b:Int))),some (V.int ((a:Int) % (b:Int)))]=_
   rw[aLL]
  ·rw[yy,<- Nat.gcd_rec,yy];exact hg
 ·refine cD (decide_eq_false (by omega)) ⟨_,rfl,?_⟩
  have:b=0:=by omega
  subst this
  rw[Nat.gcd_zero_right] at hg
  rw[hg]
  exact q
def aAV (K:aa):Sp:=fun vs H Q _=>∃ i j:Int,vs=[.int i, .int j]/\0<j/\j.natAbs<2 ^ 8000/\∀ p H',Same H H'->H' p=some (.tup [.int (i / gd i j), .int (j / gd i j)])->Q (.ref p) H'
theorem aDs {i j:Int}(h:0<j)(hj:j.natAbs<2 ^ 8000):aJq i (gd i j):=by
 refine ⟨oZ h,bq ?_ hj⟩
 have:=vb h (show gd i j ∣ j from Int.gcd_dvd_right i j)
 have:=oZ (i:=i) h
 omega
theorem aJw:∀ vs H Q E,aAV K vs H Q E->aAY K aHF { nx:=fun _ H'=>Q .non H',rt:=Q } (bD ["top","bottom","measure"] vs) H:=by
 intro vs H Q E h
 obtain⟨i,j,rfl,hj,hb,q⟩:=h
 refine ⟨_,rfl,_,rfl,i,j,rfl,?_⟩
 refine ⟨_,rfl,_,_,rfl,rfl,_,rfl,cD (decide_eq_false (by omega)) ?_⟩
 refine ⟨_,rfl,_,rfl,_,_,rfl,rfl,aDs hj hb,_,rfl,_,rfl,_,_,rfl,rfl,aDs hj hb,show 2<=ba by decide,fun p hp=>?_⟩
 exact q p _ (aG hp _) aD
abbrev Pr:=List (Int × Int)
def prI (P:Pr):List (List Int):=P.map fun e=>[e.1,e.2]
theorem aGe {H:Hp}{xs:List V}{P:Pr}(h:Rows K H xs (prI P)){i:Nat}{x:V}(hx:xs[i]?=some x):∃ e b,P[i]?=some e/\x = .ref b/\SqT K H b [.int e.1, .int e.2]:=by
 have hi:i<xs.length:=(ai.mp hx).1
 have hl:i<P.length:=by rw[h.1] at hi;unfold prI at hi;rwa [af] at hi
 obtain⟨b,e1,e2⟩:=h.2 i [P[i].1,P[i].2] (by unfold prI;rw[cf,ah hl];rfl)
 rw[hx] at e1
 exact ⟨P[i],b,ah hl,bf e1,e2⟩
end
theorem aBr {a m j:Int}(h0:0<m)(h1:m<=4611686018427387904):CMul (a % m) j := .inl ⟨by have:=v7 a (show m≠0 by omega);omega,by have:=Int.emod_lt_of_pos a h0;omega⟩
def aLu (l:Addr) (k:Nat) (z:Int):HO := .lst [.ref l, .int (k:Int), .int z]
def PenAt (H:Hp) (p l:Addr) (ns:List Int) (k:Nat) (z:Int):Prop:=H p=some (aLu l k z)/\H l=some (.lst (ns.map V.int))/\l≠p
def Pen (H:Hp) (p l:Addr) (ns:List Int):Prop:=∃ k z,PenAt H p l ns k z
theorem PenAt.put {H:Hp}{p l:Addr}{ns:List Int}{k k':Nat}{z z':Int}(h:PenAt H p l ns k z):PenAt (upd H p (aLu l k' z')) p l ns k' z':=⟨aD,by rw[bA h.2.2];exact h.2.1,h.2.2⟩
theorem PenAt.x {H H':Hp}{p l:Addr}{ns:List Int}{k:Nat}{z:Int}(h:PenAt H p l ns k z)(s:Same H H'):PenAt H' p l ns k z:=⟨s _ _ h.1,s _ _ h.2.1,h.2.2⟩
theorem Pen.x {H H':Hp}{p l:Addr}{ns:List Int}(h:Pen H p l ns)(s:Same H H'):Pen H' p l ns:=by
 obtain⟨k,z,h⟩:=h
 exact ⟨k,z,h.x s⟩
theorem Pen.ne {H:Hp}{p l:Addr}{ns:List Int}(h:Pen H p l ns){x:Addr}(hx:H x=none):x≠p/\x≠l:=by
 obtain⟨k,z,h⟩:=h
 exact ⟨fun e=>(by rw[e,h.1] at hx;cases hx),fun e=>(by rw[e,h.2.1] at hx;cases hx)⟩
theorem Pen.upd {H:Hp}{p l:Addr}{ns:List Int}(h:Pen H p l ns){x:Addr}{o:HO}(h1:x≠p)(h2:x≠l):Pen (upd H x o) p l ns:=by
 obtain⟨k,z,h⟩:=h
 exact ⟨k,z,by rw[bA (ig h1)];exact h.1,by rw[bA (ig h2)];exact h.2.1,h.2.2⟩
theorem aDL {n a b:Nat}:at2 (dc n (dc n 0)) a b=0:=by
 unfold at2
 have:(dc n (dc n (0:Int))).getD a []=[]\/(dc n (dc n (0:Int))).getD a []=dc n 0:=by
  rw[ao,kr]
  split
  ·exact .inr rfl
  ·exact .inl rfl
 rcases this with e | e
 ·rw[e];rfl
 ·rw[e,ao,kr]
  split <;> rfl
section
variable {K:aa}
theorem lU {H H':Hp}{a p:Addr}{xs ys:List V}(h:SqT K H a xs)(hp:H p=some (.lst ys))(sx:SameX p H H'):SqT K H' a xs:=by
 rcases h with (h | ⟨ob,h⟩) | h
 ·exact .inl (.inl (sx _ _ (ne_of h hp (fun z=>nomatch z)) h))
 ·exact .inl (.inr ⟨ob,sx _ _ (ne_of h hp (fun z=>nomatch z)) h⟩)
 ·exact .inr h
def aCF:Sp:=fun vs H Q _=>∃ (c:Int) (k:Nat),vs=[.int c, .int (k:Int)]/\∀ v:Int,Q (.int v) H
theorem aJi:∀ vs H Q E,aCF vs H Q E->mW K { nx:=fun _ H'=>Q .non H',rt:=Q } (bD ["cell","at","one","two","three"] vs) H:=by
 intro vs H Q E h
 obtain⟨c,k,rfl,q⟩:=h
 refine ⟨_,rfl,_,_,rfl,rfl,by show (0:Int)<1000000007;decide, .inl (.inr ⟨by decide,by decide⟩),_,rfl, .inl (.inr ⟨by decide,by decide⟩),_,_,rfl,rfl,by show (0:Int)<2147483629;decide,?_⟩
 refine ⟨_,rfl,_,rfl, .inl (aBr (by decide) (by decide)),_,rfl, .inl (.inr ⟨by decide,by decide⟩),_,rfl,_,_,rfl,rfl,by show (0:Int)<65537;decide,_,_,rfl,rfl,by show (0:Int)<2147483587;decide,?_⟩
 refine ⟨_,rfl,_,rfl, .inl (aBr (by decide) (by decide)),_,rfl, .inl (.inr ⟨by decide,by decide⟩),_,_,rfl,rfl,by show (0:Int)<2147483563;decide,?_⟩
 exact ⟨_,rfl, .inl (.inr ⟨by decide,by decide⟩),_,rfl, .inl (.inr ⟨by decide,by decide⟩),_,rfl,q _⟩
def aBu (K:aa):Sp:=fun vs H Q _=>∃ (a:Addr) (ns:List Int),vs=[.ref a]/\SqL K H a (ns.map V.int)/\∀ p l ms H',Same H H'->Pen H' p l ms->Q (.ref p) H'
theorem aGT:∀ vs H Q E,aBu K vs H Q E->pR K { nx:=fun _ H'=>Q .non H',rt:=Q } (bD ["script"] vs) H:=by
 intro vs H Q E h
 obtain⟨a,ns,rfl,hS,q⟩:=h
 refine ⟨_,rfl,_,rfl, .inl ⟨a,_,rfl,hS,fun sc hsc=>?_⟩⟩
 obtain⟨ms,ems,_⟩:=aEy ns none (some 40)
 rw[ems]
 refine .inl ⟨sc,_,rfl, .inl (.of aD),fun l hl=>⟨show 3<=ba by decide,fun p hp=>?_⟩⟩
 have hlp:l≠p:=fun e=>by rw[<- e,aD] at hp;cases hp
 refine q p l ms _ (((aG hsc _).trans (aG hl _)).trans (aG hp _)) ⟨0,0,aD,?_,hlp⟩
 rw[bA hlp]
 exact aD
def jH:Sp:=fun vs H Q _=>∃ (p l:Addr) (ns:List Int) (m:Nat),vs=[.ref p, .int (m:Int)]/\Pen H p l ns/\1<=m/\m<2 ^ 100/\∀ (r:Nat) H',r<m->Pen H' p l ns->SameX p H H'->Q (.int (r:Int)) H'
theorem aHg:∀ vs H Q E,jH vs H Q E->pM K aCF { nx:=fun _ H'=>Q .non H',rt:=Q } (bD ["feed","many","at","cell","found"] vs) H:=by
 intro vs H Q E h
 obtain⟨p,l,ns,m,rfl,⟨k,z,hP⟩,h1,hm,q⟩:=h
 have rest:∀ (G:Hp) (k':Nat) (z':Int) (x2 x3:Option V),PenAt G p l ns k' z'->SameX p H G->aP (bW (tOp aAG (tOp (bH K) (aF 0) (tC (.int 2))) (aF 1)) (aK 4)) (aP (bW (tOp vL (tOp (bH K) (aF 0) (tC (.int 2))) (aF 1)) (oB (aF 0) (tC (.int 2)) fH)) (aP (eK (aF 4)) aL)) { nx:=fun _ H'=>Q .non H',rt:=Q } [some (.ref p),some (.int (m:Int)),x2,x3,none] G:=fun G k' z' x2 x3 hG sx=>by
  obtain⟨r,er,hr⟩:=aDa (c:=z') (n:=m) h1
  refine ⟨_,rfl,ixL (j:=2) (.of hG.1) rfl ⟨_,rfl,aBH h1 er ?_⟩⟩
  refine ⟨_,rfl,ixL (j:=2) (.of hG.1) rfl ⟨_,rfl,_,_,rfl,rfl,⟨by omega,aKr (a:=100) (by omega) (by decide)⟩,_,rfl,p,_,2,2,rfl,rfl,hG.1,rfl,?_⟩⟩
  exact ⟨_,rfl,q r _ hr ⟨k',z' / (m:Int),hG.put⟩ (sx.trans (SameX.put _))⟩
 refine ⟨_,rfl,ixL (j:=2) (.of hP.1) rfl ⟨_,rfl,_,_,rfl,rfl,_,rfl,?_⟩⟩
 by_cases c1:z<(m:Int)
 ·refine dJ (decide_eq_true c1) ⟨_,rfl,ixL (j:=0) (.of hP.1) rfl ⟨l,_,rfl, .inl (.of hP.2.1),_,_,rfl,rfl,_,rfl,?_⟩⟩
  rw[af]
  by_cases c2:0<ns.length
  ·refine dJ (decide_eq_true (by omega)) ?_
   obtain⟨j,ej,hj⟩:=aDa (c:=(k:Int)) (n:=ns.length) c2
   refine ⟨_,rfl,ixL (j:=1) (.of hP.1) rfl ?_⟩
   refine ⟨_,rfl,ixL (j:=0) (.of hP.1) rfl ⟨_,rfl,_,rfl,ixL (j:=0) (.of hP.1) rfl ⟨l,_,rfl, .inl (.of hP.2.1),?_⟩⟩⟩
   rw[af]
   refine aBH c2 ej ?_
   refine ixL (j:=j) (v := .int (ns.getD j 0)) (.of hP.2.1) (by rw[cf,L2.aAK hj];rfl) ?_
   generalize ns.getD j 0=c
   refine ⟨_,rfl,_,rfl,p,_,1,1,rfl,rfl,hP.1,rfl,?_⟩
   have hP1:PenAt (upd H p (.lst ([.ref l, .int (k:Int), .int z].set 1 (.int ((k:Int)+1))))) p l ns (k+1) z:=hP.put
   have sx1:SameX p H (upd H p (.lst ([.ref l, .int (k:Int), .int z].set 1 (.int ((k:Int)+1))))):=SameX.put _
   generalize upd H p (.lst ([.ref l, .int (k:Int), .int z].set 1 (.int ((k:Int)+1))))=G1 at *
   refine ⟨_,rfl,_,rfl,p,_,2,2,rfl,rfl,hP1.1,rfl,?_⟩
   have hP2:PenAt (upd G1 p (.lst ([.ref l, .int ((k+1:Nat):Int), .int z].set 2 (.int c)))) p l ns (k+1) c:=hP1.put
   have sx2:=sx1.trans (SameX.put (H:=G1) (.lst ([.ref l, .int ((k+1:Nat):Int), .int z].set 2 (.int c))))
   generalize upd G1 p (.lst ([.ref l, .int ((k+1:Nat):Int), .int z].set 2 (.int c)))=G2 at *
   have mixed:aP (bW (bG aCF [] E0 (aC (aF 3) (aC (aF 2) aO))) (oB (aF 0) (tC (.int 2)) fH)) aL { nx:=fun σ' H'=>aP (bW (tOp aAG (tOp (bH K) (aF 0) (tC (.int 2))) (aF 1)) (aK 4)) (aP (bW (tOp vL (tOp (bH K) (aF 0) (tC (.int 2))) (aF 1)) (oB (aF 0) (tC (.int 2)) fH)) (aP (eK (aF 4)) aL)) { nx:=fun _ H'=>Q .non H',rt:=Q } σ' H',rt:=Q } [some (.ref p),some (.int (m:Int)),some (.int (k:Int)),some (.int c),none] G2:=by
    refine ⟨_,rfl,_,rfl,c,k,rfl,fun v=>⟨_,rfl,p,_,2,2,rfl,rfl,hP2.1,rfl,?_⟩⟩
    exact rest _ (k+1) v _ _ hP2.put (sx2.trans (SameX.put _))
   refine ⟨_,rfl,10,18,rfl,rfl,⟨by decide,by decide,by decide⟩,_,_,rfl,rfl,_,rfl,?_⟩
   by_cases c3:c<10 ^ 18
   ·exact dJ (decide_eq_true c3) (dJ rfl mixed)
   ·refine cD (decide_eq_false c3) ⟨_,rfl,_,rfl,ixL (j:=0) (.of hP2.1) rfl ⟨l,_,rfl, .inl (.of hP2.2.1),_,_,rfl,rfl,_,rfl,?_⟩⟩
    exact pL (fun _=>mixed) fun _=>rest _ (k+1) c _ _ hP2 sx2
  ·exact cD (decide_eq_false (by omega)) (rest H k z _ _ hP (SameX.refl _ _))
 ·exact cD (decide_eq_false c1) (rest H k z _ _ hP (SameX.refl _ _))
def Bs (M:List (List Int)) (n:Nat):Prop:=∀ i j,i<n->j<n->0<=at2 M i j/\at2 M i j<=1000000
def Sy (M:List (List Int)) (n:Nat):Prop:=∀ i j,i<n->j<n->at2 M i j=at2 M j i
theorem aGa {M:List (List Int)}{n i j:Nat}{v:Int}(b:Bs M n)(s:Sy M n)(q:Quad M n)(hi:i<n)(hj:j<n)(h0:0<=v)(h1:v<=1000000):Bs (xO (xO M i j v) j i v) n/\Sy (xO (xO M i j v) j i v) n:=by
 have q1:=jU (j:=j) (v:=v) q hi
 have e:∀ a c,at2 (xO (xO M i j v) j i v) a c=if (a=j/\c=i)\/(a=i/\c=j) then v else at2 M a c:=fun a c=>by
  rw[oC q1 hj hi,oC q hi hj]
  by_cases h1:a=j/\c=i
  ·rw[if_pos h1,if_pos (.inl h1)]
  ·rw[if_neg h1]
   by_cases h2:a=i/\c=j
   ·rw[if_pos h2,if_pos (.inr h2)]
   ·rw[if_neg h2,if_neg (fun z=>z.elim h1 h2)]
 refine ⟨fun a c ha hc=>?_,fun a c ha hc=>?_⟩
 ·rw[e]
  split
  ·exact ⟨h0,h1⟩
  ·exact b a c ha hc
 ·rw[e,e]
  by_cases c1:(a=j/\c=i)\/(a=i/\c=j)
  ·rw[if_pos c1,if_pos (by omega)]
  ·rw[if_neg c1,if_neg (by omega)]
   exact s a c ha hc
def prN (L:List (Nat × Nat)):List (List Int):=L.map fun e=>[(e.1:Int),(e.2:Int)]
theorem yT {H:Hp}{xs:List V}{L:List (Nat × Nat)}(h:Rows K H xs (prN L)){i:Nat}{x:V}(hx:xs[i]?=some x):∃ e b,L[i]?=some e/\x = .ref b/\SqT K H b [fI e.1,fI e.2]:=by
 have hi:i<xs.length:=(ai.mp hx).1
 have hl:i<L.length:=by rw[h.1] at hi;unfold prN at hi;rwa [af] at hi
 obtain⟨b,e1,e2⟩:=h.2 i [(L[i].1:Int),(L[i].2:Int)] (by unfold prN;rw[cf,ah hl];rfl)
 rw[hx] at e1
 exact ⟨L[i],b,ah hl,bf e1,e2⟩
theorem lP {L:List (Nat × Nat)}:(prN L).length=L.length:=by unfold prN;rw[af]
theorem aGS {L M:List (Nat × Nat)}:prN (L++M)=prN L++prN M:=by unfold prN;rw[cz]
theorem aBt {H:Hp}{xs ys:List V}{T U:List (List Int)}(h:Rows K H xs T)(g:Rows K H ys U):Rows K H (xs++ys) (T++U):=by
 refine ⟨by rw[az,az,h.1,g.1],fun i row e=>?_⟩
 by_cases hi:i<T.length
 ·rw[dj hi] at e
  obtain⟨b,e1,e2⟩:=h.2 i row e
  exact ⟨b,by rw[dj (by rw[h.1];exact hi)];exact e1,e2⟩
 ·rw[da (by omega)] at e
  obtain⟨b,e1,e2⟩:=g.2 _ row e
  exact ⟨b,by rw[da (by rw[h.1];omega),h.1];exact e1,e2⟩
def gP (K:aa):Sp:=fun vs H Q _=>∃ n:Nat,vs=[.int (n:Int)]/\n<=8/\∀ F ys M H',Same H H'->H F=none->H' F=some (.lst ys)->Rows K H' ys (prN M)->(∀ e∈M,e.1<e.2/\e.2<n)->(∀ a b,a<b->b<n->(a,b)∈M)->M.length<=64->Q (.ref F) H'
theorem aFb:∀ vs H Q E,gP K vs H Q E->nJ K { nx:=fun _ H'=>Q .non H',rt:=Q } (bD ["many","found","i"] vs) H:=by
 intro vs H Q E h
 obtain⟨n,rfl,h8,q⟩:=h
 refine ⟨show 0<=ba by decide,fun F hF=>?_⟩
 have mF:=aG hF (.lst [])
 have hF1:(upd H F (.lst [])) F=some (.lst []):=aD
 generalize upd H F (.lst [])=G at *
 refine ⟨_,rfl,(n:Int),rfl,by omega,by omega,?_⟩
 rw[bz]
 refine dP (lo:=0) (n:=n) (fun i σ' H'=>Same H H'/\∃ F x2 ys M,σ'=[some (.int (n:Int)),some (.ref F),x2]/\H F=none/\H' F=some (.lst ys)/\Rows K H' ys (prN M)/\(∀ e∈M,e.1<e.2/\e.2<n)/\(∀ a b,a<i->a<b->b<n->(a,b)∈M)/\M.length<=8*i) ⟨mF,F,none,[],[],rfl,hF,hF1,Rows.nil,(fun _ z=>nomatch z),(fun a _ h=>absurd h (lx a)),bg _⟩ (fun i σ' H1 hi ⟨m1,F1,x2,ys,M,es,hF0,hF2,r2,g2,c2,z2⟩=>?_) fun σ' H1 ⟨m1,F1,x2,ys,M,es,hF0,hF2,r2,g2,c2,z2⟩=>?_
 ·subst es
  rw[jn]
  refine ⟨_,rfl,_,rfl,_,rfl,_,_,rfl,⟨by omega,by omega,by omega,by omega⟩,fun A hA=>?_⟩
  rw[show ((n:Int) - ((i:Int)+1)).toNat=n - (i+1) by omega]
  have e1:prN ((av (n - (i+1))).map fun k=>(i,i+1+k))=(av (n - (i+1))).flatMap fun k=>[[(i:Int),((i+1+k:Nat):Int)]]:=by
   unfold prN
   rw[gz]
   have:∀ (L:List Nat) (f:Nat->List Int),(L.flatMap fun k=>[f k])=L.map f:=fun L f=>by
    induction L with
    | nil=>rfl
    | cons a L ih=>rw[km,ih];rfl
   rw[this]
   rfl
  refine aBD (K:=K) [0] (prN ((av (n - (i+1))).map fun k=>(i,i+1+k))) hA (by rw[lP,af,dy];omega) (EmR.cast (wX (lo:=(i:Int)+1) (by decide) (by show 0<2;decide) fun k σ2 H2 hk l2 ag2 s0 sx2=>?_) e1.symm) fun σ2 H2 pre m2 hA2 r3=>?_
  ·have t1:σ2[1]?=some (some (.int (i:Int))):=(ag2 1 (by decide)).trans rfl
   have e3:(i:Int)+1+(k:Int)=((i+1+k:Nat):Int):=by omega
   rw[e3] at s0
   exact aCP (by show 2<=100;decide) fun R hR=>⟨_,t1,_,s0,hR⟩
  ·have hF3:=m2 _ _ hF2
   refine .inl ⟨F1,A,ys,pre,rfl,rfl,hF3,hA2,?_,fun F4 hF4=>?_⟩
   ·rw[r3.1,r2.1,lP,lP,af,dy]
    exact dg (show _<=100 by omega) (by decide)
   ·have m4:=aG hF4 (.lst (ys++pre))
    refine ⟨(m1.trans m2).trans m4,F4,_,ys++pre,M++(av (n - (i+1))).map fun k=>(i,i+1+k),rfl,(m1.trans m2).free hF4,aD,?_,fun e he=>?_,fun x y hx hxy hy=>?_,?_⟩
    ·rw[aGS]
     exact (aBt (r2.same m2) r3).same m4
    ·rcases dv.mp he with he | he
     ·exact g2 e he
     ·obtain⟨k,hk,rfl⟩:=fh.mp he
      have hk:=gr.mp hk
      exact ⟨by show i<i+1+k;omega,by show i+1+k<n;omega⟩
    ·by_cases ci:x<i
     ·exact kc _ (c2 x y ci hxy hy)
     ·obtain rfl:x=i:=by omega
      exact ef _ (fh.mpr ⟨y - (x+1),gr.mpr (by omega),by show (x,x+1+(y - (x+1)))=(x,y);rw[show x+1+(y - (x+1))=y by omega]⟩)
    ·rw[az,af,dy];omega
 ·subst es
  exact ⟨_,rfl,q F1 ys M H1 m1 hF0 hF2 r2 g2 (fun a b h1 h2=>c2 a b (by omega) h1 h2) (by omega)⟩
def Flo (M:List (List Int)) (n k i0 j0:Nat) (M':List (List Int)):Prop:=∀ a b,a<n->b<n->at2 M' a b=if a<i0\/(a=i0/\b<j0) then min (at2 M a b) (at2 M a k+at2 M k b) else at2 M a b
theorem aGA {M M':List (List Int)}{n k:Nat}(hk:k<n)(b:Bs M n)(s:Sy M n)(f:Flo M n k n 0 M'):Bs M' n/\Sy M' n:=by
 refine ⟨fun i j hi hj=>?_,fun i j hi hj=>?_⟩
 ·rw[f i j hi hj,if_pos (.inl hi)]
  have:=b i j hi hj
  have:=b i k hi hk
  have:=b k j hk hj
  omega
 ·rw[f i j hi hj,f j i hj hi,if_pos (.inl hi),if_pos (.inl hj),s i j hi hj,s i k hi hk,s k j hk hj,yz]
theorem aDE {M M':List (List Int)}{n k i0 j0:Nat}(hk:k<n)(b:Bs M n)(f:Flo M n k i0 j0 M'){x:Nat}(hx:x<n):at2 M' x k=at2 M x k/\at2 M' k x=at2 M k x:=by
 have:=b k k hk hk
 constructor
 ·rw[f x k hx hk]
  split
  ·omega
  ·rfl
 ·rw[f k x hk hx]
  split
  ·omega
  ·rfl
def eV (K:aa):Sp:=fun vs H Q _=>∃ (F:Addr) (ls:List Addr) (M:List (List Int)) (n:Nat),vs=[.ref F]/\Mat H F ls M/\Quad M n/\Bs M n/\Sy M n/\1<=n/\n<=8/\∀ T v H',Same H H'->Quad T n->Bs T n->Sy T n->Sh K H' (pY T) v->Q v H'
theorem aDx:∀ vs H Q E,eV K vs H Q E->mY K { nx:=fun _ H'=>Q .non H',rt:=Q } (bD ["rows","found","k","i","j","step"] vs) H:=by
 intro vs H Q E h
 obtain⟨F0,ls0,M0,n,rfl,m0,q0,b0,y0,n1,n8,q⟩:=h
 have l0:ls0.length=n:=by rw[m0.len,q0.len]
 have lenF:∀ {H'},Same H H'->SqL K H' F0 (ls0.map V.ref):=fun s => .of (s _ _ m0.top)
 refine ⟨_,rfl,F0,rfl, .inl ⟨⟨_, .of m0.top⟩,fun F hF=>?_⟩⟩
 refine aBP (vars:=[0]) (K:=K) (a:=F0) (xs:=ls0.map V.ref) (fun i L H'=>∃ ls:List Addr,L=ls.map V.ref/\ls.length=i/\ls.Nodup/\F∉ls/\(∀ (j:Nat) (x:Addr) (r:List Int),ls[j]?=some x->M0[j]?=some r->H' x=some (.lst (r.map V.int)))/\(∀ x∈ls,∃ r:List Int,H' x=some (.lst (r.map V.int)))/\∀ x∈ls,H x=none) (by decide) (by show 0<1;decide) ⟨[],rfl,rfl,List.nodup_nil,by simp,(fun _ _ _ z=>by cases z),by simp,by simp⟩ hF (fun i L H' sm _=>lenF sm) (fun i x σ1 H2 L D hx l1 ag1 s1 sm1 ha1 ⟨ls,e1,e2,e3,e4,e5,e55,e6⟩ hD=>?_) fun σ1 H2 L sm1 ha1 ⟨ls,e1,e2,e3,e4,e5,e55,e6⟩=>?_
 ·have hi:i<ls0.length:=by have:=(ai.mp hx).1;rwa [af] at this
  obtain⟨row,g1,g2,g3⟩:=q0.get (show i<n by omega)
  obtain rfl:x = .ref ls0[i]:=by
   rw[cf,ah hi] at hx
   exact (bf hx).symm
  have hrow:=m0.row i _ row (ah hi) g1
  refine ⟨_,s1, .inl ⟨ls0[i],row.map V.int,rfl, .inl (.of (sm1 _ _ hrow)),fun p2 hp2=>?_⟩⟩
  have hp2F:p2≠F:=fun e=>by rw[e,ha1] at hp2;cases hp2
  refine ⟨L,by rw[bA (ig hp2F)];exact ha1,bq (show L.length<=9 by rw[e1,af];omega) (by decide),?_⟩
  have keep:∀ b o,b≠F->H2 b=some o->upd (upd H2 p2 (.lst (row.map V.int))) F (.lst (L++[V.ref p2])) b=some o:=fun b o hb e=>by
   rw[bA hb,bA (bO e hp2)];exact e
  refine hD σ1 _ (L++[.ref p2]) l1 ag1 (fun b o e=>keep b o (bO e hF) (sm1 _ _ e)) aD ⟨ls++[p2],by rw[e1,cz];rfl,by rw[az,e2];rfl,?_,?_,?_,?_,?_⟩
  ·refine aAq e3 fun hmem=>?_
   obtain⟨r,g⟩:=e55 p2 hmem
   rw[g] at hp2;cases hp2
  ·intro hmem
   rcases dv.mp hmem with y | y
   ·exact e4 y
   ·exact hp2F (cy.mp y).symm
  ·intro j x r hj hr
   by_cases cj:j<ls.length
   ·rw[dj cj] at hj
    exact keep x _ (fun e=>e4 (e ▸ bt hj)) (e5 j x r hj hr)
   ·have ej:j=ls.length:=by
     have:=(ai.mp hj).1
     rw[az,lu] at this
     omega
    rw[ej,da (bg _),Nat.sub_self] at hj
    cases hj
    rw[ej,e2,g1] at hr
    cases hr
    rw[bA hp2F]
    exact aD
  ·intro x hx
   rcases dv.mp hx with y | y
   ·obtain⟨r,g⟩:=e55 x y
    exact ⟨r,keep x _ (fun e=>e4 (e ▸ y)) g⟩
   ·rw[cy.mp y]
    exact ⟨row,by rw[bA hp2F];exact aD⟩
  ·intro x hx
   rcases dv.mp hx with y | y
   ·exact e6 x y
   ·rw[cy.mp y]
    exact sm1.free hp2
 rw[af] at e2
 have mat0:Mat H2 F ls M0:=⟨by rw[ha1,e1],by rw[e2];exact m0.len,e5,e3,e4⟩
 refine ⟨_,rfl,F0,_,rfl, .inl (lenF sm1),(n:Int),by rw[af,l0],by omega,by omega,?_⟩
 rw[bz]
 refine dP (lo:=0) (n:=n) (fun k σ' H'=>Same H H'/\∃ x2 x3 x4 x5 M,σ'=[some (.ref F0),some (.ref F),x2,x3,x4,x5]/\Mat H' F ls M/\Quad M n/\Bs M n/\Sy M n) ⟨sm1,_,_,_,_,M0,rfl,mat0,q0,b0,y0⟩ (fun k σ2 H3 hk ⟨s3,x2,x3,x4,x5,M,es,mM,qM,bM,yM⟩=>?_) fun σ2 H3 ⟨s3,x2,x3,x4,x5,M,es,mM,qM,bM,yM⟩=>?_
 ·subst es
  rw[jn]
  refine ⟨_,rfl,F0,_,rfl, .inl (lenF s3),(n:Int),by rw[af,l0],by omega,by omega,?_⟩
  rw[bz]
  refine dP (lo:=0) (n:=n) (fun i σ' H'=>Same H H'/\∃ x3 x4 x5 M',σ'=[some (.ref F0),some (.ref F),some (.int (k:Int)),x3,x4,x5]/\Mat H' F ls M'/\Quad M' n/\Flo M n k i 0 M') ⟨s3,_,_,_,M,rfl,mM,qM,fun a b _ _=>by rw[if_neg (by omega)]⟩ (fun i σ3 H4 hi ⟨s4,x3,x4,x5,M4,es,m4,q4,f4⟩=>?_) fun σ3 H4 ⟨s4,x3,x4,x5,M4,es,m4,q4,f4⟩=>?_
  ·subst es
   rw[jn]
   refine ⟨_,rfl,F0,_,rfl, .inl (lenF s4),(n:Int),by rw[af,l0],by omega,by omega,?_⟩
   rw[bz]
   refine dP (lo:=0) (n:=n) (fun j σ' H'=>Same H H'/\∃ x4 x5 M',σ'=[some (.ref F0),some (.ref F),some (.int (k:Int)),some (.int (i:Int)),x4,x5]/\Mat H' F ls M'/\Quad M' n/\Flo M n k i j M') ⟨s4,_,_,M4,rfl,m4,q4,f4⟩ (fun j σ4 H5 hj ⟨s5,x4,x5,M5,es,m5,q5,f5⟩=>?_) fun σ4 H5 ⟨s5,x4,x5,M5,es,m5,q5,f5⟩=>?_
   ·subst es
    rw[jn]
    refine aBM (t:=1) (si:=3) (sj:=2) m5 q5 rfl rfl rfl hi hk (aBM (t:=1) (si:=2) (sj:=4) m5 q5 rfl rfl rfl hk hj ?_)
    dsimp only [cM]
    refine aBM (t:=1) (si:=3) (sj:=4) m5 q5 rfl rfl rfl hi hj ⟨_,rfl,_,_,rfl,?_⟩
    have ik:=(aDE hk bM f5 hi).1
    have kj:=(aDE hk bM f5 hj).2
    refine aAs (t:=1) (si:=3) (sj:=4) m5 q5 rfl rfl rfl hi hj fun l' H6 hl' e6' m6=>⟨?_,_,_,_,rfl,m6,jU q5 hi,fun a b ha hb=>?_⟩
    ·intro c o e
     rw[e6',bA (bO e (e6 l' hl'))]
     exact s5 _ _ e
    ·rw[oC q5 hi hj]
     have hij:at2 M5 i j=at2 M i j:=by rw[f5 i j hi hj,if_neg (by omega)]
     by_cases ce:a=i/\b=j
     ·rw[if_pos ce,hij,ik,kj]
      obtain⟨rfl,rfl⟩:=ce
      rw[if_pos (show a<a\/(a=a/\b<b+1) by omega)]
      split <;> omega
     ·rw[if_neg ce,f5 a b ha hb]
      by_cases cl:a<i\/(a=i/\b<j)
      ·rw[if_pos cl,if_pos (by omega)]
      ·rw[if_neg cl,if_neg (by omega)]
   ·subst es
    refine ⟨s5,_,_,_,M5,rfl,m5,q5,fun a b ha hb=>?_⟩
    rw[f5 a b ha hb]
    by_cases cl:a<i+1
    ·rw[if_pos (by omega),if_pos (.inl cl)]
    ·rw[if_neg (by omega),if_neg (by omega)]
  ·subst es
   obtain⟨b5,y5⟩:=aGA hk bM yM f4
   exact ⟨s4,_,_,_,_,M4,rfl,m4,q4,b5,y5⟩
 ·subst es
  exact zK (t:=1) rfl mM qM (by omega) fun p9 H' sm hS=>q M _ H' (s3.trans sm) qM bM yM hS
end
def e1 (K:aa) (aS:Sp) (cE:Sp) (cF:Sp):TS:=(aP (bW (bG aS [] E0 (aC (aF 0) (aC (aF 5) aO))) (aK 10)) (aP (fV (bU (tOp (iX K) (aF 4) (tC (.int 1)))) (aP (bW (tOp fL (tOp aAG (aF 10) (tC (.int 2))) (tOp pV (aF 5) (tC (.int 1)))) (aK 10)) aL) aL) (aP (fV (tOr (bU (tOp (iX K) (aF 4) (tC (.int 2)))) (bU (tOp (iX K) (aF 4) (tC (.int 3))))) (aP (bW (tCB aCw (aC (tOp pV (tOp (bH K) (tOp (bH K) (aF 7) (aF 8)) (tC (.int 0))) (tOp (bH K) (tOp (bH K) (aF 7) (aF 9)) (tC (.int 0)))) aO)) (aK 10)) aL) aL) (aP (fV (bU (tOp (iX K) (aF 4) (tC (.int 3)))) (aP (bW (tOp (cM K) (aF 10) (tCB aCw (aC (tOp pV (tOp (bH K) (tOp (bH K) (aF 7) (aF 8)) (tC (.int 1))) (tOp (bH K) (tOp (bH K) (aF 7) (aF 9)) (tC (.int 1)))) aO))) (aK 10)) aL) aL) (aP (fV (bU (tOp (iX K) (aF 4) (tC (.int 4)))) (aP (bW (tOp pV (aF 5) (tC (.int 1))) (aK 10)) aL) aL) (aP (bW (tCB vR (aC (aF 10) (aC (tOp aFu (tC (.int 10)) (tC (.int 6))) aO))) (oB (tOp (bH K) (aF 6) (aF 8)) (aF 9) fH)) (aP (bW (tOp (bH K) (tOp (bH K) (aF 6) (aF 8)) (aF 9)) (oB (tOp (bH K) (aF 6) (aF 9)) (aF 8) fH)) aL)))))))
def e2 (K:aa) (aS:Sp) (cE:Sp) (cF:Sp):TS:=(aP (fV (bU (tOp (iX K) (aF 4) (tC (.int 1)))) (aP (bW (tOp fL (tOp aAG (aF 10) (tC (.int 2))) (tOp pV (aF 5) (tC (.int 1)))) (aK 10)) aL) aL) (aP (fV (tOr (bU (tOp (iX K) (aF 4) (tC (.int 2)))) (bU (tOp (iX K) (aF 4) (tC (.int 3))))) (aP (bW (tCB aCw (aC (tOp pV (tOp (bH K) (tOp (bH K) (aF 7) (aF 8)) (tC (.int 0))) (tOp (bH K) (tOp (bH K) (aF 7) (aF 9)) (tC (.int 0)))) aO)) (aK 10)) aL) aL) (aP (fV (bU (tOp (iX K) (aF 4) (tC (.int 3)))) (aP (bW (tOp (cM K) (aF 10) (tCB aCw (aC (tOp pV (tOp (bH K) (tOp (bH K) (aF 7) (aF 8)) (tC (.int 1))) (tOp (bH K) (tOp (bH K) (aF 7) (aF 9)) (tC (.int 1)))) aO))) (aK 10)) aL) aL) (aP (fV (bU (tOp (iX K) (aF 4) (tC (.int 4)))) (aP (bW (tOp pV (aF 5) (tC (.int 1))) (aK 10)) aL) aL) (aP (bW (tCB vR (aC (aF 10) (aC (tOp aFu (tC (.int 10)) (tC (.int 6))) aO))) (oB (tOp (bH K) (aF 6) (aF 8)) (aF 9) fH)) (aP (bW (tOp (bH K) (tOp (bH K) (aF 6) (aF 8)) (aF 9)) (oB (tOp (bH K) (aF 6) (aF 9)) (aF 8) fH)) aL))))))
def e3 (K:aa) (aS:Sp) (cE:Sp) (cF:Sp):TS:=(aP (fV (tOr (bU (tOp (iX K) (aF 4) (tC (.int 2)))) (bU (tOp (iX K) (aF 4) (tC (.int 3))))) (aP (bW (tCB aCw (aC (tOp pV (tOp (bH K) (tOp (bH K) (aF 7) (aF 8)) (tC (.int 0))) (tOp (bH K) (tOp (bH K) (aF 7) (aF 9)) (tC (.int 0)))) aO)) (aK 10)) aL) aL) (aP (fV (bU (tOp (iX K) (aF 4) (tC (.int 3)))) (aP (bW (tOp (cM K) (aF 10) (tCB aCw (aC (tOp pV (tOp (bH K) (tOp (bH K) (aF 7) (aF 8)) (tC (.int 1))) (tOp (bH K) (tOp (bH K) (aF 7) (aF 9)) (tC (.int 1)))) aO))) (aK 10)) aL) aL) (aP (fV (bU (tOp (iX K) (aF 4) (tC (.int 4)))) (aP (bW (tOp pV (aF 5) (tC (.int 1))) (aK 10)) aL) aL) (aP (bW (tCB vR (aC (aF 10) (aC (tOp aFu (tC (.int 10)) (tC (.int 6))) aO))) (oB (tOp (bH K) (aF 6) (aF 8)) (aF 9) fH)) (aP (bW (tOp (bH K) (tOp (bH K) (aF 6) (aF 8)) (aF 9)) (oB (tOp (bH K) (aF 6) (aF 9)) (aF 8) fH)) aL)))))
def e4 (K:aa) (aS:Sp) (cE:Sp) (cF:Sp):TS:=(aP (fV (bU (tOp (iX K) (aF 4) (tC (.int 3)))) (aP (bW (tOp (cM K) (aF 10) (tCB aCw (aC (tOp pV (tOp (bH K) (tOp (bH K) (aF 7) (aF 8)) (tC (.int 1))) (tOp (bH K) (tOp (bH K) (aF 7) (aF 9)) (tC (.int 1)))) aO))) (aK 10)) aL) aL) (aP (fV (bU (tOp (iX K) (aF 4) (tC (.int 4)))) (aP (bW (tOp pV (aF 5) (tC (.int 1))) (aK 10)) aL) aL) (aP (bW (tCB vR (aC (aF 10) (aC (tOp aFu (tC (.int 10)) (tC (.int 6))) aO))) (oB (tOp (bH K) (aF 6) (aF 8)) (aF 9) fH)) (aP (bW (tOp (bH K) (tOp (bH K) (aF 6) (aF 8)) (aF 9)) (oB (tOp (bH K) (aF 6) (aF 9)) (aF 8) fH)) aL))))
def e5 (K:aa) (aS:Sp) (cE:Sp) (cF:Sp):TS:=(aP (fV (bU (tOp (iX K) (aF 4) (tC (.int 4)))) (aP (bW (tOp pV (aF 5) (tC (.int 1))) (aK 10)) aL) aL) (aP (bW (tCB vR (aC (aF 10) (aC (tOp aFu (tC (.int 10)) (tC (.int 6))) aO))) (oB (tOp (bH K) (aF 6) (aF 8)) (aF 9) fH)) (aP (bW (tOp (bH K) (tOp (bH K) (aF 6) (aF 8)) (aF 9)) (oB (tOp (bH K) (aF 6) (aF 9)) (aF 8) fH)) aL)))
def e6 (K:aa) (aS:Sp) (cE:Sp) (cF:Sp):TS:=(aP (bW (tCB vR (aC (aF 10) (aC (tOp aFu (tC (.int 10)) (tC (.int 6))) aO))) (oB (tOp (bH K) (aF 6) (aF 8)) (aF 9) fH)) (aP (bW (tOp (bH K) (tOp (bH K) (aF 6) (aF 8)) (aF 9)) (oB (tOp (bH K) (aF 6) (aF 9)) (aF 8) fH)) aL))
def aGx (p:Addr) (ls:List Addr) (H H':Hp):Prop:=∀ b o,b≠p->b∉ls->H b=some o->H' b=some o
theorem aFG {a b:Nat}:eqD (.int (a:Int)) (.int (b:Int))=decide (a=b):=by
 rw[eqD]
 by_cases c:a=b
 ·rw[decide_eq_true c,c];simp
 ·rw[decide_eq_false c];simp;omega
section
variable {K:aa}{p l F:Addr}{ls:List Addr}{ns:List Int}{n:Nat}
structure Ro (K:aa)(G:Hp)(p l F:Addr)(ls:List Addr)(ns:List Int)(n:Nat)(H':Hp):Prop where
 ex:∃ M,Quad M n/\Bs M n/\Sy M n/\Mat H' F ls M
 pen:Pen H' p l ns
 sl:aGx p ls G H'
theorem Ro.draw {G H' H2:Hp}(h:Ro K G p l F ls ns n H')(hF:F≠p)(hl:∀ x∈ls,x≠p)(hP:Pen H2 p l ns)(sx:SameX p H' H2):Ro K G p l F ls ns n H2:=by
 obtain⟨M,q,b,s,m⟩:=h.ex
 exact ⟨⟨M,q,b,s,m.keep fun c o hc e=>sx c o (by rcases hc with rfl | hc;exact hF;exact hl c hc) e⟩,hP,fun c o hc hn e=>sx c o hc (h.sl c o hc hn e)⟩
variable {G:Hp}{x0 x1 x2:Option V}{way top i j A:Nat}{D:lO}{zs:List V}{R:List (List Int)}
structure Fx (K:aa)(G:Hp)(p l F:Addr)(ls:List Addr)(n A:Nat)(zs:List V)(R:List (List Int)):Prop where
 F:F≠p
 l:∀ x∈ls,x≠p/\x≠l
 Ap:A≠p
 Al:A∉ls
 hA:G A=some (.lst zs)
 rows:Rows K G zs R
 two:R.length=n/\∀ r∈R,∃ a b,r=[a,b]
 pen:∃ o,G p=some (.lst o)
 lst:∀ x∈ls,∃ o,G x=some (.lst o)
theorem aHz {H':Hp}{b:Addr}{xs:List V}(fx:Fx K G p l F ls n A zs R)(sl:aGx p ls G H')(h:SqT K G b xs):SqT K H' b xs:=by
 obtain⟨o,ho⟩:=fx.pen
 have np:∀ u,G b=some u->(∀ ys,u ≠ .lst ys)->b≠p/\b∉ls:=fun u e hu=>⟨fun z=>by rw[z,ho] at e;exact hu _ (bf e).symm,fun z=>by
  obtain⟨o',ho'⟩:=fx.lst b z
  rw[ho'] at e
  exact hu _ (bf e).symm⟩
 rcases h with (h | ⟨ob,h⟩) | h
 ·have:=np _ h (fun ys e=>by cases e)
  exact .inl (.inl (sl _ _ this.1 this.2 h))
 ·have:=np _ h (fun ys e=>by cases e)
  exact .inl (.inr ⟨ob,sl _ _ this.1 this.2 h⟩)
 ·exact .inr h
theorem wM {H':Hp}{σ:St}{Q:VK}{t s k:Nat}{c:Nat}(hk:k<2)(fx:Fx K G p l F ls n A zs R)(sl:aGx p ls G H')(ht:σ[t]?=some (some (.ref A)))(hs:σ[s]?=some (some (.int (c:Int))))(hc:c<n)(q:∀ v:Int,Q (.int v) H'):tOp (bH K) (tOp (bH K) (aF t) (aF s)) (tC (.int (k:Int))) σ H' Q:=by
 have hcR:c<R.length:=by rw[fx.two.1];exact hc
 obtain⟨a,b,e⟩:=fx.two.2 _ (jw hcR)
 obtain⟨d,e1,e2⟩:=fx.rows.2 c R[c] (ah hcR)
 have hA':=sl _ _ fx.Ap fx.Al fx.hA
 rw[e] at e2
 refine ⟨_,ht,_,hs,ixL (j:=c) (.of hA') e1 ?_⟩
 match k,hk with
 | 0,_=>exact ixT (j:=0) (aHz fx sl e2) rfl (q a)
 | 1,_=>exact ixT (j:=1) (aHz fx sl e2) rfl (q b)
def StE (p:Addr) (x1 x2:Option V) (n way top:Nat) (F A:Addr) (i j:Nat) (x:Option V):St:=[some (.ref p),x1,x2,some (.int (n:Int)),some (.int (way:Int)),some (.int (top:Int)),some (.ref F),some (.ref A),some (.int (i:Int)),some (.int (j:Int)),x]
theorem aIV {H':Hp}{v:Int}(fx:Fx K G p l F ls n A zs R)(ro:Ro K G p l F ls ns n H')(hi:i<n)(hj:j<n)(hij:i<j)(h0:0<=v)(q:∀ x H2,Ro K G p l F ls ns n H2->D.nx (StE p x1 x2 n way top F A i j x) H2):e6 K jH (gP K) (eV K) D (StE p x1 x2 n way top F A i j (some (.int v))) H':=by
 obtain⟨M,qM,bM,sM,mM⟩:=ro.ex
 refine ⟨_,rfl,10,6,rfl,rfl,⟨by decide,by decide,by decide⟩,_,_,rfl,?_⟩
 have hw:∃ w:Int,(if ((10:Int) ^ (6:Int).toNat)<v then ((10:Int) ^ (6:Int).toNat) else v)=w/\0<=w/\w<=1000000:=by
  refine ⟨_,rfl,?_⟩
  have:((10:Int) ^ (6:Int).toNat)=1000000:=by decide
  rw[this]
  split <;> omega
 obtain⟨w,ew,w0,w1⟩:=hw
 rw[ew]
 refine aAs (t:=6) (si:=8) (sj:=9) mM qM rfl rfl rfl hi hj fun l1 H1 hl1 e1 m1=>?_
 have q1:=jU (j:=j) (v:=w) qM hi
 refine aBM (t:=6) (si:=8) (sj:=9) m1 q1 rfl rfl rfl hi hj ?_
 rw[oC qM hi hj,if_pos ⟨rfl,rfl⟩]
 refine aAs (t:=6) (si:=9) (sj:=8) m1 q1 rfl rfl rfl hj hi fun l2 H2 hl2 e2 m2=>q _ H2 ⟨⟨_,jU q1 hj,(aGa bM sM qM hi hj w0 w1).1,(aGa bM sM qM hi hj w0 w1).2,m2⟩,?_,fun c o hc hn e=>?_⟩
 ·rw[e2,e1]
  exact (ro.pen.upd (fx.l l1 hl1).1 (fx.l l1 hl1).2).upd (fx.l l2 hl2).1 (fx.l l2 hl2).2
 ·rw[e2,bA (fun z=>hn (by rw[z];exact hl2)),e1,bA (fun z=>hn (by rw[z];exact hl1))]
  exact ro.sl c o hc hn e
theorem aIb {H':Hp}{v:Int}(fx:Fx K G p l F ls n A zs R)(ro:Ro K G p l F ls ns n H')(hi:i<n)(hj:j<n)(hij:i<j)(ht:2<=top)(h0:0<=v)(q:∀ x H2,Ro K G p l F ls ns n H2->D.nx (StE p x1 x2 n way top F A i j x) H2):e5 K jH (gP K) (eV K) D (StE p x1 x2 n way top F A i j (some (.int v))) H':=by
 refine ⟨_,rfl, .int (way:Int), .int 4,ay _,rfl,rfl,_,rfl,pL (fun _=>?_) fun _=>?_⟩
 ·exact ⟨_,rfl,_,_,rfl,rfl,aIV fx ro hi hj hij (by omega) q⟩
 ·exact aIV fx ro hi hj hij h0 q
theorem aIH {H':Hp}{v:Int}(fx:Fx K G p l F ls n A zs R)(ro:Ro K G p l F ls ns n H')(hi:i<n)(hj:j<n)(hij:i<j)(ht:2<=top)(h0:0<=v)(q:∀ x H2,Ro K G p l F ls ns n H2->D.nx (StE p x1 x2 n way top F A i j x) H2):e4 K jH (gP K) (eV K) D (StE p x1 x2 n way top F A i j (some (.int v))) H':=by
 refine ⟨_,rfl, .int (way:Int), .int 3,ay _,rfl,rfl,_,rfl,pL (fun _=>?_) fun _=>?_⟩
 ·refine ⟨_,rfl,wM (t:=7) (s:=8) (k:=1) (by decide) fx ro.sl rfl rfl hi fun a=>wM (t:=7) (s:=9) (k:=1) (by decide) fx ro.sl rfl rfl hj fun b=>⟨_,_,rfl,rfl,_,rfl,?_⟩⟩
  exact aIb fx ro hi hj hij ht (by split <;> omega) q
 ·exact aIb fx ro hi hj hij ht h0 q
theorem aIe {H':Hp}{v:Int}(fx:Fx K G p l F ls n A zs R)(ro:Ro K G p l F ls ns n H')(hi:i<n)(hj:j<n)(hij:i<j)(ht:2<=top)(h0:0<=v)(q:∀ x H2,Ro K G p l F ls ns n H2->D.nx (StE p x1 x2 n way top F A i j x) H2):e3 K jH (gP K) (eV K) D (StE p x1 x2 n way top F A i j (some (.int v))) H':=by
 have go:(aP (bW (tCB aCw (aC (tOp pV (tOp (bH K) (tOp (bH K) (aF 7) (aF 8)) (tC (.int 0))) (tOp (bH K) (tOp (bH K) (aF 7) (aF 9)) (tC (.int 0)))) aO)) (aK 10)) aL) { D with nx:=e4 K jH (gP K) (eV K) D } (StE p x1 x2 n way top F A i j (some (.int v))) H':=by
  refine wM (t:=7) (s:=8) (k:=0) (by decide) fx ro.sl rfl rfl hi fun a=>wM (t:=7) (s:=9) (k:=0) (by decide) fx ro.sl rfl rfl hj fun b=>⟨_,_,rfl,rfl,_,rfl,?_⟩
  exact aIH fx ro hi hj hij ht (by split <;> omega) q
 refine ⟨_,rfl, .int (way:Int), .int 2,ay _,rfl,rfl,_,rfl,pL (fun _=>dJ rfl go) fun _=>⟨_,rfl, .int (way:Int), .int 3,ay _,rfl,rfl,_,rfl,pL (fun _=>go) fun _=>aIH fx ro hi hj hij ht h0 q⟩⟩
theorem aKM {H':Hp}{v:Int}(fx:Fx K G p l F ls n A zs R)(ro:Ro K G p l F ls ns n H')(hi:i<n)(hj:j<n)(hij:i<j)(ht:2<=top)(ht2:top<=1000001)(h0:0<=v)(q:∀ x H2,Ro K G p l F ls ns n H2->D.nx (StE p x1 x2 n way top F A i j x) H2):e2 K jH (gP K) (eV K) D (StE p x1 x2 n way top F A i j (some (.int v))) H':=by
 refine ⟨_,rfl, .int (way:Int), .int 1,ay _,rfl,rfl,_,rfl,pL (fun _=>?_) fun _=>?_⟩
 ·refine ⟨_,rfl,_,_,rfl,rfl,by show (0:Int)<2;decide,_,rfl,_,_,rfl,rfl, .inl (.inr ⟨by omega,by omega⟩),?_⟩
  exact aIe fx ro hi hj hij ht (iy (v7 _ (by decide)) (by omega)) q
 ·exact aIe fx ro hi hj hij ht h0 q
theorem aLg {H':Hp}{x:Option V}(fx:Fx K G p l F ls n A zs R)(ro:Ro K G p l F ls ns n H')(hi:i<n)(hj:j<n)(hij:i<j)(ht:2<=top)(ht2:top<=1000001)(q:∀ x H2,Ro K G p l F ls ns n H2->D.nx (StE p x1 x2 n way top F A i j x) H2):e1 K jH (gP K) (eV K) D (StE p x1 x2 n way top F A i j x) H':=by
 refine ⟨_,rfl,_,rfl,p,l,ns,top,rfl,ro.pen,by omega,bq ht2 (by decide),fun r H2 hr hP sx=>?_⟩
 exact aKM fx (ro.draw fx.F (fun x hx=>(fx.l x hx).1) hP sx) hi hj hij ht ht2 (by omega) q
def aBq (K:aa):Sp:=fun vs H Q _=>∃ (p l:Addr) (ns:List Int) (lo d:Nat),vs=[.ref p, .int (lo:Int), .int ((lo+d:Nat):Int)]/\1<=lo/\lo+d<=8/\Pen H p l ns/\∀ T n v H',lo<=n->n<=lo+d->Quad T n->Bs T n->Sy T n->Sh K H' (pY T) v->Pen H' p l ns->SameX p H H'->Q v H'
theorem aFw:∀ vs H Q E,aBq K vs H Q E->oX K jH (gP K) (eV K) { nx:=fun _ H'=>Q .non H',rt:=Q } (bD ["feed","least","most","many","way","top","rows","spots","i","j","found"] vs) H:=by
 intro vs H Q E h
 obtain⟨p,l,ns,lo,d,rfl,lo1,lo8,hP0,q⟩:=h
 refine ⟨_,rfl,_,rfl,_,rfl,_,rfl,_,_,rfl,rfl,p,l,ns,d+1,by show [V.ref p, .int (((lo+d:Nat):Int) - (lo:Int)+1)]=[V.ref p, .int ((d+1:Nat):Int)];rw[show ((lo+d:Nat):Int) - (lo:Int)+1=((d+1:Nat):Int) by omega],hP0,by omega,bq (show d+1<=9 by omega) (by decide),fun r0 H0 hr0 hP1 sx0=>?_⟩
 dsimp only [cM]
 obtain⟨n,en⟩:∃ n:Nat,n=lo+r0:=⟨_,rfl⟩
 rw[show (lo:Int)+(r0:Int)=(n:Int) by omega]
 refine ⟨_,rfl,p,l,ns,8,rfl,hP1,by decide,by decide,fun way H1 hway hP2 sx1=>?_⟩
 refine ⟨show 4<=ba by decide,fun t0 ht0=>⟨_,rfl,p,l,ns,4,rfl,hP2.x (aG ht0 _),by decide,by decide,fun r2 H2 hr2 hP3 sx2=>?_⟩⟩
 have et0:H2 t0=some (.lst [.int 2, .int 5, .int 30, .int 1000001]):=sx2 _ _ (hP2.ne ht0).1 aD
 have sx02:SameX p H H2:=((sx0.trans sx1).trans (aG ht0 _).x).trans sx2
 have ctop:∃ top:Nat,[V.int 2, .int 5, .int 30, .int 1000001][r2]?=some (.int (top:Int))/\2<=top/\top<=1000001:=by
  match r2,hr2 with
  | 0,_=>exact ⟨2,rfl,by decide,by decide⟩
  | 1,_=>exact ⟨5,rfl,by decide,by decide⟩
  | 2,_=>exact ⟨30,rfl,by decide,by decide⟩
  | 3,_=>exact ⟨1000001,rfl,by decide,by decide⟩
 obtain⟨top,etop,top2,topb⟩:=ctop
 refine ixL (j:=r2) (.of et0) etop ?_
 refine ⟨_,rfl,(n:Int),rfl,by omega,by omega,fun F hF=>?_⟩
 rw[bz]
 refine aDw (vars:=[0]) (fun i L H'=>∃ ls:List Addr,L=ls.map V.ref/\ls.length=i/\ls.Nodup/\F∉ls/\(∀ l∈ls,H' l=some (.lst (dc n (.int 0))))/\∀ l∈ls,H2 l=none) (by decide) (by show 0<2;decide) ⟨[],rfl,rfl,List.nodup_nil,by simp,by simp,by simp⟩ hF (fun i σ1 H3 L D hi l1 ag1 s1 sm1 ha1 ⟨ls,e1,e2,e3,e4,e5,e6⟩ hD=>?_) fun σ1 H3 L sm1 ha1 ⟨ls,e1,e2,e3,e4,e5,e6⟩=>?_
 ·have m1:σ1[1]?=some (some (.int (n:Int))):=(ag1 1 (by decide)).trans rfl
  refine ⟨by show 1<=ba;decide,fun p' hp=>⟨_,m1,p',(n:Int),_,rfl,rfl,aD,by omega,by omega,?_,fun p2 hp2=>?_⟩⟩
  ·rw[bz]
   exact dg (show 1*n<=9 by omega) (by decide)
  have hpF:p'≠F:=fun e=>by rw[e,ha1] at hp;cases hp
  have hF2:upd H3 p' (.lst [V.int 0]) F=some (.lst L):=by rw[bA (ig hpF)];exact ha1
  have hp2F:p2≠F:=fun e=>by rw[e,hF2] at hp2;cases hp2
  rw[bz,List.flatten_replicate_singleton]
  refine ⟨L,by rw[bA (ig hp2F)];exact hF2,bq (show L.length<=9 by rw[e1,af];omega) (by decide),?_⟩
  have keep:∀ b o,b≠F->H3 b=some o->upd (upd (upd H3 p' (.lst [V.int 0])) p2 (.lst (dc n (V.int 0)))) F (.lst (L++[V.ref p2])) b=some o:=fun b o hb e=>by
   have e':upd H3 p' (.lst [V.int 0]) b=some o:=by rw[bA (bO e hp)];exact e
   rw[bA hb,bA (bO e' hp2)];exact e'
  refine hD σ1 _ (L++[.ref p2]) l1 ag1 (fun b o e=>keep b o (bO e hF) (sm1 _ _ e)) aD ⟨ls++[p2],by rw[e1,cz];rfl,by rw[az,e2];rfl,?_,?_,?_,?_⟩
  ·refine aAq e3 fun hmem=>?_
   have g:=e5 p2 hmem
   have g':upd H3 p' (.lst [V.int 0]) p2=some (.lst (dc n (.int 0))):=by rw[bA (bO g hp)];exact g
   rw[g'] at hp2;cases hp2
  ·intro hmem
   rcases dv.mp hmem with y | y
   ·exact e4 y
   ·exact hp2F (cy.mp y).symm
  ·intro x hx
   rcases dv.mp hx with y | y
   ·exact keep x _ (fun e=>e4 (e ▸ y)) (e5 x y)
   ·rw[cy.mp y,bA hp2F]
    exact aD
  ·intro x hx
   rcases dv.mp hx with y | y
   ·exact e6 x y
   ·rw[cy.mp y]
    exact (sm1.trans (aG hp _)).free hp2
 have mat0:Mat H3 F ls (dc n (dc n 0)):=by
  refine ⟨by rw[ha1,e1],by rw[e2,lr],fun i x r a b=>?_,e3,e4⟩
  have:=e5 x (bt a)
  rw[kr] at b
  split at b
  ·cases b
   rw[this,List.map_replicate]
  ·cases b
 have quad0:Quad (dc n (dc n (0:Int))) n:=⟨lr,fun r hr=>by rw[List.eq_of_mem_replicate hr,lr]⟩
 have hP4:=hP3.x sm1
 have nFp:=(hP3.ne hF).1
 have nls:∀ x∈ls,x≠p/\x≠l:=fun x hx=>hP3.ne (e6 x hx)
 refine ⟨_,rfl,(n:Int),rfl,by omega,by omega,fun A hA=>?_⟩
 rw[bz]
 have nA:=hP4.ne hA
 have nAls:A∉ls:=fun h=>by have:=e5 A h;rw[this] at hA;cases hA
 refine dP (lo:=0) (n:=n) (fun i σ' H'=>(∃ y0,σ'=[y0,some (.ref p),some (.int (top:Int))])/\Pen H' p l ns/\SameX p H3 H'/\∃ L R,H' A=some (.lst L)/\Rows K H' L R/\R.length=i/\∀ r∈R,∃ a b,r=[a,b]) ⟨⟨_,rfl⟩,hP4.x (aG hA _),(aG hA _).x,[],[],aD,Rows.nil,rfl,(fun _ z=>nomatch z)⟩ (fun i σ2 H5 hi ⟨⟨y0,es⟩,hP5,sx5,L5,R5,hA5,r5,z5,t5⟩=>?_) fun σ2 H5 ⟨⟨y0,es⟩,hP5,sx5,L5,R5,hA5,r5,z5,t5⟩=>?_
 ·subst es
  refine ⟨_,rfl,_,rfl,p,l,ns,top,rfl,hP5,by omega,bq topb (by decide),fun ra H6 _ hP6 sx6=>?_⟩
  refine ⟨_,rfl,_,rfl,p,l,ns,top,rfl,hP6,by omega,bq topb (by decide),fun rb H7 _ hP7 sx7=>⟨show 2<=ba by decide,fun u hu=>?_⟩⟩
  have mu:=aG hu (.tup [V.int (ra:Int), .int (rb:Int)])
  have sx67:=sx6.trans sx7
  obtain⟨k5,z5',hp5⟩:=hP5
  have hA7:=mu _ _ (sx67 _ _ nA.1 hA5)
  have r7:Rows K (upd H7 u (.tup [V.int (ra:Int), .int (rb:Int)])) L5 R5:=(r5.map fun b rr hb=>lU hb hp5.1 sx67).same mu
  refine ⟨L5,hA7,bq (show L5.length<=9 by rw[r5.1];omega) (by decide),⟨_,rfl⟩,(hP7.x mu).upd nA.1 nA.2,?_,_,R5++[[(ra:Int),(rb:Int)]],aD,?_,by rw[az,z5];rfl,fun r hr=>?_⟩
  ·intro c o hc e
   rw[bA (bO e hA)]
   exact mu _ _ (sx67 _ _ hc (sx5 _ _ hc e))
  ·exact Rows.put (Rows.snoc r7 (.of aD)) hA7
  ·rcases dv.mp hr with hr | hr
   ·exact t5 r hr
   ·rw[cy.mp hr];exact ⟨_,_,rfl⟩
 subst es
 have mat5:Mat H5 F ls (dc n (dc n 0)):=mat0.keep fun c o hc e=>sx5 c o (by rcases hc with rfl | hc;exact nFp;exact (nls c hc).1) e
 refine ⟨_,rfl,n,rfl,by omega,fun Fp ys M H6 m6 hFp0 hFp rp gM _ zM=>?_⟩
 refine ⟨Fp,rfl, .inl ⟨⟨_, .of hFp⟩,?_⟩⟩
 obtain⟨k6,z6,hp6⟩:=hP5.x m6
 have fx:Fx K H6 p l F ls n A L5 R5:=⟨nFp,nls,nA.1,nAls,m6 _ _ hA5,r5.same m6,⟨z5,t5⟩,⟨_,hp6.1⟩,fun x hx=>⟨_,m6 _ _ (sx5 _ _ (nls x hx).1 (e5 x hx))⟩⟩
 have nFpp:Fp≠p:=(hP5.ne hFp0).1
 have nFpl:Fp∉ls:=fun h=>by
  have:=sx5 _ _ (nls Fp h).1 (e5 Fp h)
  rw[hFp0] at this
  cases this
 have ro0:Ro K H6 p l F ls ns n H6:=⟨⟨_,quad0,fun i j _ _=>by rw[aDL];omega,fun i j _ _=>by rw[aDL,aDL],mat5.same m6⟩,⟨k6,z6,hp6⟩,fun c o _ _ e=>e⟩
 refine cX (K:=K) (a:=Fp) (xs:=ys) (fun k σ' H'=>Ro K H6 p l F ls ns n H'/\∃ x8 x9 x10,σ'=[some (.ref p),some (.int (lo:Int)),some (.int ((lo+d:Nat):Int)),some (.int (n:Int)),some (.int (way:Int)),some (.int (top:Int)),some (.ref F),some (.ref A),x8,x9,x10]) ⟨ro0,_,_,_,rfl⟩ (fun k σ' H' _ ⟨ro,_⟩ => .of (ro.sl _ _ nFpp nFpl hFp)) (fun k x σ' H' hx ⟨ro,x8,x9,x10,es⟩=>?_) fun σ' H' ⟨ro,x8,x9,x10,es⟩=>?_
 ·subst es
  obtain⟨e,b,he,rfl,hb⟩:=yT rp hx
  obtain⟨g1,g2⟩:=gM e (bt he)
  refine ⟨b,_,rfl,aHz fx ro.sl hb,rfl,fI e.1,[fI e.2],rfl,fI e.2,[],rfl,rfl,?_⟩
  exact aLg (way:=way) (x:=x10) fx ro (by omega) g2 g1 top2 topb fun x H7 ro7=>⟨ro7,_,_,_,rfl⟩
 ·subst es
  obtain⟨M',qM,bM,sM,mM⟩:=ro.ex
  have sxE:SameX p H H':=fun c o hc e=>by
   have c3:H3 c=some o:=sm1 _ _ (sx02 _ _ hc e)
   have hn:c∉ls:=fun h=>by
    have h2:=e6 c h
    rw[sx02 _ _ hc e] at h2
    cases h2
   exact ro.sl c o hc hn (m6 _ _ (sx5 _ _ hc c3))
  refine ⟨_,rfl,_,_,rfl,rfl,_,rfl,pL (fun _=>?_) fun _=>?_⟩
  ·exact ⟨_,rfl,F,ls,M',n,rfl,mM,qM,bM,sM,by omega,by omega,fun T v H8 s8 qT bT sT hT=>q T n v H8 (by omega) (by omega) qT bT sT hT (ro.pen.x s8) (sxE.trans s8.x)⟩
  ·exact zK (t:=6) rfl mM qM (by omega) fun p9 H8 s8 hT=>q M' n _ H8 (by omega) (by omega) qM bM sM hT (ro.pen.x s8) (sxE.trans s8.x)
end
def Ev (T:List (List Int)) (n:Nat):Prop:=∀ i j,i<n->j<n->at2 T i j=at2 T j i
def jL (T:List (List Int)) (n:Nat):List Bool:=(av n).flatMap fun i=>(av i).flatMap fun j=>[at2 T i j == at2 T j i]
section
variable {K:aa}
def aIx (K:aa) (f:List (List Int)->Nat->Bool):Sp:=fun vs H Q _=>∃ (v:V) (T:List (List Int)) (n:Nat),vs=[v]/\Sh K H (pY T) v/\Quad T n/\1<=n/\n<=8/\∀ H',Same H H'->Q (.bl (f T n)) H'
theorem aGv:∀ vs H Q E,aIx K (fun T n=>(jL T n).all id) vs H Q E->zR K { nx:=fun _ H'=>Q .non H',rt:=Q } (bD ["table","many"] vs) H:=by
 intro vs H Q E h
 obtain⟨v,T,n,rfl,hS,hq,h1,hn,q⟩:=h
 obtain⟨a,rs,rfl,ha,hl,hrow⟩:=id hS.tab
 have hl:rs.length=n:=hl.trans hq.len
 refine ⟨_,rfl,a,rs,rfl, .inr ha,?_⟩
 rw[hl]
 refine ⟨_,rfl,(n:Int),rfl,by omega,by omega,fun acc hacc=>?_⟩
 rw[bz]
 refine cA [0,1] ((jL T n).map V.bl) hacc ?_ ?_ fun σ' H' sm hl'=>⟨acc,jL T n,rfl, .inl (.of hl'),q H' sm⟩
 ·rw[af]
  have:=fP (fun i=>(av i).flatMap fun j=>[at2 T i j == at2 T j i]) 8 n fun i hi=>by
   have:=fP (fun j=>[at2 T i j == at2 T j i]) 1 i fun _ _=>bg _
   omega
  unfold jL
  omega
 ·refine Emits.cast (L:=(av n).flatMap fun i=>(av i).flatMap fun j=>[V.bl (at2 T i j == at2 T j i)]) ?_ (by unfold jL;simp only [pD,d3,yq])
  refine kQ (by decide) (by show 0<3;decide) fun i σ1 H1 hi l1 ag1 s1 sx1 _=>?_
  rw[jn] at s1
  refine Emits.mono (vars:=[1]) (zW (by decide) (by rw[l1];show 1<3;decide) (by omega) (fun Q hQ=>⟨_,s1,hQ H1 (Same.refl _)⟩) fun j σ2 H2 hj l2 ag2 s2 sx2 _=>?_) (by simp)
  have t2:σ2[2]?=some (some (.ref a)):=(ag2 2 (by decide)).trans ((ag1 2 (by decide)).trans rfl)
  have u1:σ2[0]?=some (some (.int (i:Int))):=(ag2 0 (by decide)).trans s1
  have S2:=hS.same (cT hacc (sx1.trans sx2))
  refine dA fun Q hQ=>?_
  refine sP t2 u1 s2 S2 hq (by omega) (by omega) (sP t2 s2 u1 S2 hq (by omega) (by omega) ⟨.int _, .int _,ay _,rfl,rfl,?_⟩)
  unfold eqD
  exact hQ H2 (Same.refl _)
theorem aEP {T:List (List Int)}{n:Nat}(h:Ev T n):(jL T n).all id=true:=by
 unfold jL
 rw[rE]
 refine e9.mpr fun i hi=>?_
 rw[rE]
 refine e9.mpr fun j hj=>?_
 have hi:=gr.mp hi
 have hj:=gr.mp hj
 rw[h i j hi (by omega)]
 simp
end
section
variable {K:aa}
abbrev aKf (K:aa):Sp:=aIx K (fun T n=>(jL T n).all id)
end
end K40
namespace Sh
def sumN:Nat->(Nat->Int)->Int
 | 0,_=>0
 | n+1,f=>sumN n f+f n
theorem dF {f g:Nat->Int}:∀ {n:Nat},(∀ k,k<n->f k=g k)->sumN n f=sumN n g
 | 0,_=>rfl
 | n+1,h=>by
  show sumN n f+f n=sumN n g+g n
  rw[dF fun k hk=>h k (gw hk),h n (jv n)]
theorem aBx {f g:Nat->Int}{a:Int}:∀ n:Nat,sumN n (fun k=>a*f k+g k)=a*sumN n f+sumN n g
 | 0=>by simp [sumN]
 | n+1=>by
  show sumN n (fun k=>a*f k+g k)+(a*f n+g n)=a*(sumN n f+f n)+(sumN n g+g n)
  rw[aBx n,o7]
  omega
theorem gW {f:Nat->Int}{a:Int}:∀ n:Nat,sumN n (fun k=>a*f k)=a*sumN n f
 | 0=>by simp [sumN]
 | n+1=>by
  show sumN n (fun k=>a*f k)+a*f n=a*(sumN n f+f n)
  rw[gW n,o7]
theorem kK {f g:Nat->Int}:∀ n:Nat,sumN n (fun k=>f k+g k)=sumN n f+sumN n g
 | 0=>rfl
 | n+1=>by
  show sumN n (fun k=>f k+g k)+(f n+g n)=(sumN n f+f n)+(sumN n g+g n)
  rw[kK n]
  omega
theorem nM {f:Nat->Int}{n:Nat}(h:∀ k,k<n->f k=0):sumN n f=0:=by
 induction n with
 | zero=>rfl
 | succ n ih=>
  show sumN n f+f n=0
  rw[ih fun k hk=>h k (by omega),h n (by omega)]
  rfl
theorem iR {f:Nat->Int}{n i:Nat}(hi:i<n)(h:∀ k,k<n->k≠i->f k=0):sumN n f=f i:=by
 induction n with
 | zero=>omega
 | succ n ih=>
  show sumN n f+f n=f i
  by_cases c:i=n
  ·subst c
   rw[nM fun k hk=>h k (by omega) (by omega)]
   omega
  ·rw[ih (by omega) fun k hk hne=>h k (by omega) hne,h n (by omega) (ig c)]
   omega
theorem aBA {f:Nat->Int}{n i j:Nat}(hi:i<n)(hj:j<n)(hij:i≠j)(h:∀ k,k<n->k≠i->k≠j->f k=0):sumN n f=f i+f j:=by
 have e:sumN n f=sumN n (fun k=>if k=i then f i else 0)+sumN n (fun k=>if k=j then f j else 0):=by
  rw[<- kK]
  refine dF fun k hk=>?_
  by_cases c1:k=i
  ·rw[if_pos c1,if_neg (by omega),c1];omega
  ·by_cases c2:k=j
   ·rw[if_neg c1,if_pos c2,c2];omega
   ·rw[if_neg c1,if_neg c2,h k hk c1 c2];rfl
 rw[e,iR hi fun k _ hne=>if_neg hne,iR hj fun k _ hne=>if_neg hne,if_pos rfl,if_pos rfl]
theorem qV {f:Nat->Int}{n:Nat}(h:∀ k,k<n->0<=f k):0<=sumN n f:=by
 induction n with
 | zero=>exact vc _
 | succ n ih=>
  have h1:=ih fun k hk=>h k (by omega)
  have h2:=h n (by omega)
  show 0<=sumN n f+f n
  omega
theorem aBy {f:Nat->Int}{n:Nat}(h:0<sumN n f):∃ k,k<n/\0<f k:=by
 apply d8
 intro no
 have:0<=sumN n fun k=>-1*f k:=qV fun k hk=>by
  have:¬ 0<f k:=fun z=>no ⟨k,hk,z⟩
  omega
 rw[gW] at this
 omega
abbrev Vec:=Nat->Int
abbrev Tup:=Nat->Vec
def up (b:Tup) (i:Nat) (v:Vec):Tup:=fun k=>if k=i then v else b k
theorem fN {b:Tup}{i:Nat}{v:Vec}:up b i v i=v:=if_pos rfl
theorem lR {b:Tup}{i k:Nat}{v:Vec}(h:k≠i):up b i v k=b k:=if_neg h
theorem kA {b:Tup}{i:Nat}:up b i (b i)=b:=by
 funext k
 unfold up
 split
 ·rename_i h;rw[h]
 ·rfl
theorem aKi {b:Tup}{i:Nat}{u v:Vec}:up (up b i u) i v=up b i v:=by
 funext k
 unfold up
 split <;> rfl
theorem nZ {b:Tup}{i j:Nat}{u v:Vec}(h:i≠j):up (up b i u) j v=up (up b j v) i u:=by
 funext k
 unfold up
 by_cases c1:k=i
 ·by_cases c2:k=j
  ·exact absurd (c1.symm.trans c2) h
  ·rw[if_neg c2,if_pos c1,if_pos c1]
 ·by_cases c2:k=j
  ·rw[if_pos c2,if_neg c1,if_pos c2]
  ·rw[if_neg c2,if_neg c1,if_neg c1,if_neg c2]
def skip (i:Nat) (b:Tup):Tup:=fun k=>if k<i then b k else b (k+1)
def sg (i:Nat):Int:=if i % 2=0 then 1 else -1
theorem aGr (i:Nat):sg (i+1) = - sg i:=by
 unfold sg
 by_cases c:i % 2=0
 ·rw[if_pos c,if_neg (by omega)]
 ·rw[if_neg c,if_pos (by omega)];rfl
theorem aIE (i:Nat):sg (i+i)=1:=by unfold sg;rw[if_pos (by omega)]
def det:Nat->Tup->Int
 | 0,_=>1
 | M+1,b=>sumN (M+1) fun i=>sg (i+M)*(b i M*det M (skip i b))
theorem aAl {b b':Tup}:∀ {M:Nat},(∀ k,k<M->b k=b' k)->det M b=det M b':=by
 intro M
 induction M generalizing b b' with
 | zero=>intro _;rfl
 | succ M ih=>
  intro h
  refine dF fun i hi=>?_
  rw[h i hi,ih fun k hk=>?_]
  unfold skip
  split
  ·exact h k (by omega)
  ·exact h (k+1) (by omega)
theorem aAw {b:Tup}{i k:Nat}{w:Vec}(h:k≠i):skip k (up b i w)=up (skip k b) (if i<k then i else i - 1) w:=by
 funext x
 show (if x<k then (if x=i then w else b x) else (if x+1=i then w else b (x+1)))=if x=(if i<k then i else i - 1) then w else if x<k then b x else b (x+1)
 by_cases c:i<k
 ·rw[if_pos c]
  by_cases c1:x<k
  ·rw[if_pos c1,if_pos c1]
  ·rw[if_neg c1,if_neg c1,if_neg (by omega),if_neg (by omega)]
 ·rw[if_neg c]
  by_cases c1:x<k
  ·rw[if_pos c1,if_pos c1,if_neg (by omega),if_neg (by omega)]
  ·rw[if_neg c1,if_neg c1]
   by_cases c2:x+1=i
   ·rw[if_pos c2,if_pos (by omega)]
   ·rw[if_neg c2,if_neg (by omega)]
theorem jQ {b:Tup}{i:Nat}{w:Vec}:skip i (up b i w)=skip i b:=by
 funext x
 unfold skip up
 by_cases c1:x<i
 ·rw[if_pos c1,if_pos c1,if_neg (by omega)]
 ·rw[if_neg c1,if_neg c1,if_neg (by omega)]
theorem oD {a:Int}{u v:Vec}:∀ {M:Nat} {b:Tup} {i:Nat},i<M->det M (up b i fun c=>a*u c+v c)=a*det M (up b i u)+det M (up b i v):=by
 intro M
 induction M with
 | zero=>intro b i h;omega
 | succ M ih=>
  intro b i hi
  show sumN (M+1) _=a*sumN (M+1) _+sumN (M+1) _
  rw[<- aBx]
  refine dF fun k hk=>?_
  by_cases c:k=i
  ·subst c
   rw[jQ,jQ,jQ,fN,fN,fN]
   show sg (k+M)*((a*u M+v M)*det M (skip k b))=a*(sg (k+M)*(u M*det M (skip k b)))+sg (k+M)*(v M*det M (skip k b))
   rw[xu,o7,fk a,gh (sg (k+M)) a]
  ·rw[aAw c,aAw c,aAw c,lR c,lR c,lR c,ih (by split <;> omega),o7,o7,gh (b k M) a,gh (sg (k+M)) a]
theorem aGL {b:Tup}{i:Nat}(h:b i=b (i+1)):skip i b=skip (i+1) b:=by
 funext x
 unfold skip
 by_cases c1:x<i
 ·rw[if_pos c1,if_pos (by omega)]
 ·rw[if_neg c1]
  by_cases c2:x=i
  ·subst c2
   rw[if_pos (by omega),h]
  ·rw[if_neg (by omega)]
theorem aEa:∀ {M:Nat} {b:Tup} {i:Nat},i+1<M->b i=b (i+1)->det M b=0:=by
 intro M
 induction M with
 | zero=>intro b i h;omega
 | succ M ih=>
  intro b i hi hb
  show sumN (M+1) _=0
  rw[aBA (i:=i) (j:=i+1) (by omega) hi (by omega) fun k hk h1 h2=>?_]
  ·rw[aGL hb,hb,show i+1+M=(i+M)+1 by omega,aGr]
   rw[ka]
   omega
  ·have:det M (skip k b)=0:=by
    by_cases c:k<i
    ·refine ih (i:=i - 1) (by omega) ?_
     unfold skip
     rw[if_neg (by omega),if_neg (by omega),show i - 1+1=i by omega,hb]
    ·refine ih (i:=i) (by omega) ?_
     unfold skip
     rw[if_pos (by omega),if_pos (by omega),hb]
   rw[this,iw,iw]
theorem aCW {M:Nat}{b:Tup}{i j:Nat}{u v:Vec}(hi:i<M)(hj:j<M)(hij:i≠j)(z:∀ w,det M (up (up b i w) j w)=0):det M (up (up b i u) j v) = - det M (up (up b i v) j u):=by
 have h:=z fun c=>(1:Int)*u c+v c
 rw[oD hj,nZ hij,oD hi,nZ hij,oD hi,nZ (ig hij),nZ (ig hij),nZ (ig hij),nZ (ig hij),z u,z v] at h
 omega
theorem xP {M:Nat}{b:Tup}{i:Nat}{u v:Vec}(h:i+1<M):det M (up (up b i u) (i+1) v) = - det M (up (up b i v) (i+1) u):=
 aCW (by omega) h (by omega) fun w=>aEa h (by rw[lR (by omega),fN,fN])
theorem aFV {M:Nat}:∀ (n:Nat) {b:Tup} {i j:Nat},j - i=n->i<j->j<M->b i=b j->det M b=0:=by
 intro n
 induction n with
 | zero=>intro b i j h1 h2;omega
 | succ n ih=>
  intro b i j h1 h2 h3 hb
  by_cases c:j=i+1
  ·subst c
   exact aEa h3 hb
  ·obtain⟨k,rfl⟩:∃ k,j=k+1:=⟨j - 1,by omega⟩
   have e:det M b=det M (up (up b k (b k)) (k+1) (b (k+1))):=by rw[kA,kA]
   rw[e,xP h3,ih (i:=i) (j:=k) (by omega) (by omega) (by omega) ?_]
   ·rfl
   ·rw[lR (by omega),lR (by omega),lR (by omega),fN,hb]
theorem iL {M:Nat}{b:Tup}{i j:Nat}(hi:i<M)(hj:j<M)(hij:i≠j)(hb:b i=b j):det M b=0:=by
 rcases Nat.lt_or_gt_of_ne hij with h | h
 ·exact aFV _ rfl h hj hb
 ·exact aFV _ rfl h hi hb.symm
theorem aFd {M:Nat}{b:Tup}{i j:Nat}{u v:Vec}(hi:i<M)(hj:j<M)(hij:i≠j):det M (up (up b i u) j v) = - det M (up (up b i v) j u):=
 aCW hi hj hij fun w=>iL hi hj hij (by rw[lR hij,fN,fN])
def unit (i:Nat):Vec:=fun c=>if c=i then 1 else 0
theorem aBe:∀ M:Nat,det M unit=1:=by
 intro M
 induction M with
 | zero=>rfl
 | succ M ih=>
  show sumN (M+1) _=1
  rw[iR (i:=M) (by omega) fun k hk hne=>?_]
  ·have e:det M (skip M unit)=det M unit:=aAl fun k hk=>by unfold skip;rw[if_pos hk]
   rw[e,ih,aIE]
   show (1:Int)*((if M=M then 1 else 0)*1)=1
   rw[if_pos rfl]
   rfl
  ·have:unit k M=0:=if_neg (by omega)
   rw[this,y1,iw]
theorem qG {M:Nat}{b:Tup}{i:Nat}{a:Int}{u:Vec}(hi:i<M):det M (up b i fun c=>a*u c)=a*det M (up b i u):=by
 have z:det M (up b i fun _=>0)=0:=by
  have h:=oD (M:=M) (b:=b) (i:=i) (a:=1) (u:=fun _=>0) (v:=fun _=>0) hi
  have e:(fun c:Nat=>(1:Int)*(fun _=>0) c+(fun _=>(0:Int)) c)=fun _=>0:=by funext c;simp
  rw[e] at h
  omega
 have h:=oD (M:=M) (b:=b) (i:=i) (a:=a) (u:=u) (v:=fun _=>0) hi
 have e:(fun c=>a*u c+(fun _=>(0:Int)) c)=fun c=>a*u c:=by funext c;simp
 rw[e,z] at h
 omega
theorem wG {M:Nat}{b:Tup}{i:Nat}{a:Nat->Int}{w:Nat->Vec}(hi:i<M):∀ n:Nat,det M (up b i fun c=>sumN n fun k=>a k*w k c)=sumN n fun k=>a k*det M (up b i (w k))
 | 0=>by
  have:=qG (M:=M) (b:=b) (i:=i) (a:=0) (u:=fun _=>0) hi
  simp at this
  exact this
 | n+1=>by
  have e:(fun c=>sumN (n+1) fun k=>a k*w k c)=fun c=>a n*w n c+(fun c=>sumN n fun k=>a k*w k c) c:=by
   funext c
   show sumN n (fun k=>a k*w k c)+a n*w n c=a n*w n c+sumN n (fun k=>a k*w k c)
   exact yz ..
  rw[e,oD hi,wG hi n]
  show _=sumN n (fun k=>a k*det M (up b i (w k)))+a n*det M (up b i (w n))
  exact yz ..
section
variable {A:Nat->Vec}{m N:Nat}{h h':Nat->Nat}
def bv (A:Nat->Vec) (m:Nat) (h:Nat->Nat):Tup:=fun i=>if i<m then A (h i) else unit m
def R (A:Nat->Vec) (m:Nat) (h:Nat->Nat) (i j:Nat):Int:=det (m+1) (up (bv A m h) i (A j))
def dd (A:Nat->Vec) (m:Nat) (h:Nat->Nat):Int:=det (m+1) (bv A m h)
def put (h:Nat->Nat) (r c:Nat):Nat->Nat:=fun i=>if i=r then c else h i
theorem yK {i:Nat}(hi:i<m):bv A m h i=A (h i):=if_pos hi
theorem aJQ:bv A m h m=unit m:=if_neg (jz _)
theorem xZ {r c:Nat}(hr:r<m):bv A m (put h r c)=up (bv A m h) r (A c):=by
 funext i
 unfold bv put up
 by_cases e:i=r
 ·rw[if_pos e,if_pos e,if_pos (by omega)]
 ·rw[if_neg e,if_neg e]
structure Ok (A:Nat->Vec)(m N:Nat)(h:Nat->Nat):Prop where
 d0:0<dd A m h
 hN:∀ i,i<m->h i<N
 ex:∀ j,j<=N->∀ c,dd A m h*A j c=sumN (m+1) fun i=>R A m h i j*bv A m h i c
 b0:∀ i,i<m->0<=R A m h i N
theorem dd_put {r c:Nat}(hr:r<m):dd A m (put h r c)=R A m h r c:=by unfold dd R;rw[xZ hr]
theorem R_row {r c j:Nat}(hr:r<m):R A m (put h r c) r j=R A m h r j:=by unfold R;rw[xZ hr,aKi]
theorem R_turn {r c i j:Nat}(k:Ok A m N h)(hr:r<m)(hi:i<=m)(hir:i≠r)(hj:j<=N):dd A m h*R A m (put h r c) i j=R A m h r c*R A m h i j - R A m h i c*R A m h r j:=by
 have hi':i<m+1:=by omega
 have e1:dd A m h*R A m (put h r c) i j=det (m+1) (up (up (bv A m h) r (A c)) i fun q=>sumN (m+1) fun k=>R A m h k j*bv A m h k q):=by
  have:(fun q=>sumN (m+1) fun k=>R A m h k j*bv A m h k q)=fun q=>dd A m h*A j q:=by
   funext q
   rw[k.ex j hj q]
  rw[this,qG hi']
  unfold R
  rw[xZ hr]
 rw[e1,wG hi',aBA (i:=i) (j:=r) hi' (by omega) hir fun x hx h1 h2=>?_]
 ·have e2:up (up (bv A m h) r (A c)) i (bv A m h i)=up (bv A m h) r (A c):=by
   have:bv A m h i=up (bv A m h) r (A c) i:=(lR hir).symm
   rw[this,kA]
  have e3:det (m+1) (up (up (bv A m h) r (A c)) i (bv A m h r)) = - R A m h i c:=by
   rw[aFd (by omega) hi' (ig hir),kA]
   rfl
  rw[e2,e3]
  show R A m h i j*R A m h r c+R A m h r j*(- R A m h i c)=_
  rw[zv,ez (R A m h i j),ez (R A m h r j)]
  omega
 ·have:det (m+1) (up (up (bv A m h) r (A c)) i (bv A m h x))=0:=iL (i:=x) (j:=i) hx hi' h1 (by rw[lR h1,lR h2,fN])
  rw[this,iw]
def aKB (A:Nat->Vec) (m N:Nat) (h:Nat->Nat) (c r:Nat):Prop:=∀ i,i<m->0<R A m h i c->R A m h r N*R A m h i c<=R A m h i N*R A m h r c/\(R A m h r N*R A m h i c=R A m h i N*R A m h r c->h r<=h i)
structure Stp (A:Nat->Vec)(m N:Nat)(h h':Nat->Nat)(c r:Nat):Prop where
 cN:c<N
 rm:r<m
 neg:R A m h m c<0
 fst:∀ j,j<c->0<=R A m h m j
 pos:0<R A m h r c
 tig:aKB A m N h c r
 eq:h'=put h r c
theorem Ok.step {c r:Nat}(k:Ok A m N h)(s:Stp A m N h h' c r):Ok A m N h':=by
 obtain⟨cN,rm,neg,fst,pos,tig,rfl⟩:=s
 have ed:=dd_put (A:=A) (h:=h) (c:=c) rm
 refine ⟨by rw[ed];exact pos,fun i hi=>?_,fun j hj q=>?_,fun i hi=>?_⟩
 ·unfold put
  split
  ·exact cN
  ·exact k.hN i hi
 ·have d0:=k.d0
  refine t8 (show dd A m h≠0 by omega) ?_
  rw[ed,<- gW]
  have e:sumN (m+1) (fun i=>dd A m h*(R A m (put h r c) i j*bv A m (put h r c) i q))=sumN (m+1) (fun i=>(R A m h r c*(R A m h i j*bv A m h i q)+(- R A m h r j)*(R A m h i c*bv A m h i q))+if i=r then R A m h r j*(dd A m h*A c q) else 0):=by
   refine dF fun i hi=>?_
   by_cases ci:i=r
   ·subst ci
    rw[if_pos rfl,R_row rm,xZ rm,fN,ka]
    rw[gh (dd A m h),gh (R A m h i c) (R A m h i j)]
    omega
   ·rw[if_neg ci,xZ rm,lR ci,<- fk,R_turn k rm (by omega) ci hj,Int.sub_mul,fk,ka,ez (R A m h i c) (R A m h r j),fk]
    omega
  rw[e,kK,kK,gW,gW,<- k.ex j hj q,<- k.ex c (by omega) q,iR (i:=r) (by omega) fun x _ hx=>if_neg hx,if_pos rfl,ka,gh]
  omega
 ·by_cases ci:i=r
  ·subst ci
   rw[R_row rm]
   exact k.b0 i hi
  ·have e:=R_turn (c:=c) k rm (show i<=m by omega) ci (bg N)
   have d0:=k.d0
   have h1:=k.b0 i hi
   have h2:=k.b0 r rm
   have:0<=dd A m h*R A m (put h r c) i N:=by
    rw[e]
    by_cases cp:0<R A m h i c
    ·have:=(tig i hi cp).1
     rw[ez (R A m h r c),ez (R A m h i c)]
     omega
    ·have p1:0<=R A m h r c*R A m h i N:=iy (by omega) h1
     have p2:0<=(- R A m h i c)*R A m h r N:=iy (by omega) h2
     rw[ka] at p2
     omega
   exact Int.nonneg_of_mul_nonneg_right this d0
theorem Ok.held {i:Nat}(hi:i<m):R A m h m (h i)=0:=by
 unfold R
 refine iL (i:=i) (j:=m) (by omega) (by omega) (by omega) ?_
 rw[lR (by omega),fN,yK hi]
theorem aHR:det (m+1) (up (bv A m h) m (unit m))=dd A m h:=by
 have:unit m=bv A m h m:=aJQ.symm
 rw[this,kA]
 rfl
theorem Ok.two {g:Nat->Nat}(k:Ok A m N h){s:Nat}(hs:s<=N):dd A m h*R A m g m s=sumN m (fun i=>R A m h i s*R A m g m (h i))+R A m h m s*dd A m g:=by
 have e:dd A m h*R A m g m s=det (m+1) (up (bv A m g) m fun q=>sumN (m+1) fun k=>R A m h k s*bv A m h k q):=by
  have:(fun q=>sumN (m+1) fun k=>R A m h k s*bv A m h k q)=fun q=>dd A m h*A s q:=by
   funext q
   rw[k.ex s hs q]
  rw[this,qG (by omega)]
  rfl
 rw[e,wG (by omega)]
 show sumN m _+R A m h m s*det (m+1) (up (bv A m g) m (bv A m h m))=_
 rw[aJQ,aHR]
 congr 1
 refine dF fun i hi=>?_
 rw[yK hi]
 rfl
theorem aBp {g:Nat->Nat}(e:∀ i,i<m->h i=g i):bv A m h=bv A m g:=by
 funext i
 unfold bv
 split
 ·rename_i hi
  rw[e i hi]
 ·rfl
end
theorem aHT:∀ (n:Nat) (f:Nat->Nat),(∀ t,t<=n->f t<n)->∃ a b,a<b/\b<=n/\f a=f b:=by
 intro n
 induction n with
 | zero=>intro f h;exact absurd (h 0 (bg _)) (by omega)
 | succ n ih=>
  intro f h
  by_cases c:∃ t,t<n+1/\f t=f (n+1)
  ·obtain⟨t,ht,e⟩:=c
   exact ⟨t,n+1,ht,bg _,e⟩
  ·have c':∀ t,t<n+1->f t≠f (n+1):=fun t ht e=>c ⟨t,ht,e⟩
   obtain⟨a,b,hab,hb,e⟩:=ih (fun t=>if f t=n then f (n+1) else f t) fun t ht=>by
    show (if f t=n then f (n+1) else f t)<n
    have h1:=h t (by omega)
    have h2:=h (n+1) (by omega)
    have h3:=c' t (by omega)
    split <;> omega
   refine ⟨a,b,hab,by omega,?_⟩
   have ha:=c' a (by omega)
   have hb':=c' b (by omega)
   by_cases e1:f a=n
   ·by_cases e2:f b=n
    ·omega
    ·simp only [e1,e2,if_true,if_false] at e
     exact absurd e.symm hb'
   ·by_cases e2:f b=n
    ·simp only [e1,e2,if_true,if_false] at e
     exact absurd e ha
    ·simp only [e1,e2,if_false] at e
     exact e
def code (N:Nat) (h:Nat->Nat):Nat->Nat
 | 0=>0
 | k+1=>code N h k*N+h k
theorem aDH {N:Nat}{h:Nat->Nat}:∀ {m:Nat},(∀ i,i<m->h i<N)->code N h m<N ^ m
 | 0,_=>by simp [code]
 | m+1,k=>by
  have h1:=aDH (m:=m) fun i hi=>k i (by omega)
  have h2:=k m (by omega)
  show code N h m*N+h m<N ^ m*N
  have:(code N h m+1)*N<=N ^ m*N:=w9 N h1
  rw[zh] at this
  omega
theorem aBa {N:Nat}{h g:Nat->Nat}:∀ {m:Nat},(∀ i,i<m->h i<N)->(∀ i,i<m->g i<N)->code N h m=code N g m->∀ i,i<m->h i=g i
 | 0,_,_,_=>fun i hi=>by omega
 | m+1,k,l,e=>by
  have h1:=k m (by omega)
  have h2:=l m (by omega)
  have e:code N h m*N+h m=code N g m*N+g m:=e
  have em:h m=g m:=by
   have:=congrArg (· % N) e
   simp only [Nat.mul_add_mod_self_right,px h1,px h2] at this
   exact this
  have ed:code N h m=code N g m:=Nat.eq_of_mul_eq_mul_right (show 0<N by omega) (show code N h m*N=code N g m*N by omega)
  intro i hi
  by_cases c:i=m
  ·rw[c];exact em
  ·exact aBa (fun i hi=>k i (by omega)) (fun i hi=>l i (by omega)) ed i (by omega)
theorem change {f:Nat->Nat}{a:Nat}:∀ {n:Nat},f (a+n)≠f a->∃ u,a<=u/\u<a+n/\f u=f a/\f (u+1)≠f a
 | 0,h=>absurd rfl h
 | n+1,h=>by
  by_cases c:f (a+n)=f a
  ·exact ⟨a+n,by omega,by omega,c,h⟩
  ·obtain⟨u,h1,h2,h3,h4⟩:=change c
   exact ⟨u,h1,by omega,h3,h4⟩
theorem aDT {f:Nat->Nat}{a:Nat}:∀ {n:Nat},f (a+n)≠f a->∃ u,a<=u/\u<a+n/\f u≠f (a+n)/\f (u+1)=f (a+n)
 | 0,h=>absurd rfl h
 | n+1,h=>by
  by_cases c:f (a+n)=f (a+(n+1))
  ·rw[<- c] at h ⊢
   obtain⟨u,h1,h2,h3,h4⟩:=aDT h
   exact ⟨u,h1,by omega,h3,h4⟩
  ·exact ⟨a+n,by omega,by omega,c,rfl⟩
theorem kT {a b c d e f:Int}(hb:0<b)(hd:0<d)(hf:0<f)(h1:a*d<=c*b)(h2:c*f<=e*d):a*f<=e*b:=by
 have x1:=jd h1 (pe hf)
 have x2:=jd h2 (pe hb)
 refine Int.le_of_mul_le_mul_left (a:=d) ?_ hd
 have e1:d*(a*f)=a*d*f:=by rw[ez a d,fk]
 have e2:d*(e*b)=e*d*b:=by rw[ez e d,fk]
 have e3:c*b*f=c*f*b:=by rw[fk,ez b f,<- fk]
 omega
section
variable {A:Nat->Vec}{m N:Nat}
theorem Ok.inj {h:Nat->Nat}(k:Ok A m N h){i j:Nat}(hi:i<m)(hj:j<m)(e:h i=h j):i=j:=by
 apply d8
 intro ne
 have:dd A m h=0:=iL (i:=i) (j:=j) (by omega) (by omega) ne (by rw[yK hi,yK hj,e])
 have:=k.d0
 omega
theorem aGz {h g:Nat->Nat}(e:∀ i,i<m->h i=g i)(i j:Nat):R A m h i j=R A m g i j:=by unfold R;rw[aBp e]
theorem aEL {h g:Nat->Nat}(e:∀ i,i<m->h i=g i):dd A m h=dd A m g:=by unfold dd;rw[aBp e]
theorem Stp.worth {h h':Nat->Nat}{c r:Nat}(k:Ok A m N h)(s:Stp A m N h h' c r):dd A m h*R A m h' m N=dd A m h'*R A m h m N - R A m h m c*R A m h r N:=by
 obtain⟨cN,rm,neg,fst,pos,tig,rfl⟩:=s
 rw[dd_put rm,R_turn k rm (bg _) (by omega) (bg _)]
theorem Stp.zero {h h':Nat->Nat}{c r:Nat}(k:Ok A m N h)(s:Stp A m N h h' c r)(z:R A m h r N=0){i:Nat}(hi:i<m):R A m h' i N=0↔R A m h i N=0:=by
 obtain⟨cN,rm,neg,fst,pos,tig,rfl⟩:=s
 by_cases c1:i=r
 ·subst c1;rw[R_row rm]
 ·have e:=R_turn (c:=c) k rm (show i<=m by omega) c1 (bg N)
  rw[z,iw,Int.sub_zero] at e
  have d0:=k.d0
  constructor
  ·intro z'
   rw[z',iw] at e
   rcases Int.mul_eq_zero.1 e.symm with q | q
   ·omega
   ·exact q
  ·intro z'
   rw[z',iw] at e
   rcases Int.mul_eq_zero.1 e with q | q
   ·omega
   ·exact q
structure Circ (A:Nat->Vec)(m N:Nat)(h:Nat->Nat->Nat)(c r:Nat->Nat)(n:Nat):Prop where
 ok:∀ t,Ok A m N (h t)
 st:∀ t,t<n->Stp A m N (h t) (h (t+1)) (c t) (r t)
 cl:∀ i,i<m->h n i=h 0 i
 n0:0<n
variable {h:Nat->Nat->Nat}{c r:Nat->Nat}{n:Nat}
theorem Circ.le (k:Circ A m N h c r n):∀ {t:Nat},t<=n->R A m (h 0) m N*dd A m (h t)<=R A m (h t) m N*dd A m (h 0)
 | 0,_=>vc _
 | t+1,ht=>by
  have ih:=Circ.le k (t:=t) (by omega)
  refine kT (k.ok 0).d0 (k.ok t).d0 (k.ok (t+1)).d0 ih ?_
  have s:=k.st t (by omega)
  have e:=s.worth (k.ok t)
  have p:0<=(- R A m (h t) m (c t))*R A m (h t) (r t) N:=iy (by have:=s.neg;omega) ((k.ok t).b0 _ s.rm)
  rw[ka] at p
  rw[ez (R A m (h (t+1)) m N),ez (R A m (h t) m N)]
  omega
theorem Circ.ge (k:Circ A m N h c r n):∀ {j t:Nat},t+j=n->R A m (h t) m N*dd A m (h 0)<=R A m (h 0) m N*dd A m (h t)
 | 0,t,e=>by
  have e:t=n:=e
  subst e
  rw[aGz k.cl,aEL k.cl]
  exact vc _
 | j+1,t,e=>by
  have ih:=Circ.ge k (j:=j) (t:=t+1) (by omega)
  refine kT (k.ok t).d0 (k.ok (t+1)).d0 (k.ok 0).d0 ?_ ih
  have s:=k.st t (by omega)
  have e:=s.worth (k.ok t)
  have p:0<=(- R A m (h t) m (c t))*R A m (h t) (r t) N:=iy (by have:=s.neg;omega) ((k.ok t).b0 _ s.rm)
  rw[ka] at p
  rw[ez (R A m (h (t+1)) m N),ez (R A m (h t) m N)]
  omega
theorem Circ.still (k:Circ A m N h c r n){t:Nat}(ht:t<n):R A m (h t) (r t) N=0:=by
 have s:=k.st t ht
 have e:=s.worth (k.ok t)
 have l:=kT (k.ok (t+1)).d0 (k.ok 0).d0 (k.ok t).d0 (k.ge (j:=n - (t+1)) (t:=t+1) (by omega)) (k.le (t:=t) (by omega))
 have z:(- R A m (h t) m (c t))*R A m (h t) (r t) N<=0:=by
  rw[ka]
  rw[ez (R A m (h (t+1)) m N),ez (R A m (h t) m N)] at l
  omega
 have n1:=s.neg
 have b:=(k.ok t).b0 _ s.rm
 apply d8
 intro ne
 have:0<(- R A m (h t) m (c t))*R A m (h t) (r t) N:=q9 (by omega) (by omega)
 omega
theorem Circ.zero0 (k:Circ A m N h c r n){i:Nat}(hi:i<m):∀ {t:Nat},t<=n->(R A m (h t) i N=0↔R A m (h 0) i N=0)
 | 0,_=>Iff.rfl
 | t+1,ht=>((k.st t (by omega)).zero (k.ok t) (k.still (by omega)) hi).trans (Circ.zero0 k hi (by omega))
theorem Stp.same {h h':Nat->Nat}{c r i:Nat}(s:Stp A m N h h' c r)(ne:h' i≠h i):i=r/\h' i=c:=by
 rw[s.eq] at ne ⊢
 unfold put at ne ⊢
 by_cases q:i=r
 ·rw[if_pos q];exact ⟨q,rfl⟩
 ·rw[if_neg q] at ne;exact absurd rfl ne
theorem Stp.new {h h':Nat->Nat}{c r i:Nat}(s:Stp A m N h h' c r)(hi:i<m):h i≠c:=fun e=>by
 have:=s.neg
 rw[<- e,Ok.held hi] at this
 omega
theorem Stp.at_r {h h':Nat->Nat}{c r:Nat}(s:Stp A m N h h' c r):h' r=c:=by rw[s.eq];exact if_pos rfl
theorem Circ.comes (k:Circ A m N h c r n){i s t:Nat}(hi:i<m)(hs:s<=n)(ht:t<=n)(ne:h t i≠h s i):∃ u,u<n/\i=r u/\c u=h s i:=by
 have g:∀ a b,a<=b->b<=n->h b i≠h a i->∃ u,a<=u/\u<b/\i=r u/\c u=h b i:=fun a b hab hb ne=>by
  obtain⟨d,rfl⟩:∃ d,b=a+d:=⟨b - a,by omega⟩
  obtain⟨u,h1,h2,h3,h4⟩:=aDT (f:=fun x=>h x i) ne
  obtain⟨e1,e2⟩:=(k.st u (by omega)).same (i:=i) (by
   show h (u+1) i≠h u i
   have h3:h u i≠h (a+d) i:=h3
   have h4:h (u+1) i=h (a+d) i:=h4
   rw[h4];exact ig h3)
  exact ⟨u,h1,h2,e1,by rw[<- e2];exact h4⟩
 by_cases c1:h s i=h 0 i
 ·rcases Nat.lt_or_ge 0 t with _ | _
  ·obtain⟨u,_,h2,h3,h4⟩:=g t n ht (bg _) (by rw[k.cl i hi,<- c1];exact ig ne)
   exact ⟨u,h2,h3,by rw[h4,k.cl i hi,c1]⟩
  ·obtain rfl:t=0:=by omega
   exact absurd c1.symm ne
 ·obtain⟨u,_,h2,h3,h4⟩:=g 0 s (ay _) hs c1
  exact ⟨u,by omega,h3,h4⟩
theorem aLt (f : Nat -> Nat) : ∀ {n : Nat}, 0 < n -> ∃ t, t < n /\ ∀ u, u < n -> f u <= f t
  | 0, h => absurd h (by omega)
  | 1, _ => ⟨0, by omega, fun u hu => by obtain rfl : u = 0 := by omega
                                         exact bg _⟩
  | n + 2, _ => by
    obtain⟨t, ht, h⟩ := aLt f (n := n + 1) (by omega)
    by_cases c : f (n + 1) <= f t
    · exact ⟨t, by omega, fun u hu => by
        by_cases e : u = n + 1
        · rw[e]; exact c
        · exact h u (by omega)⟩
    · exact ⟨n + 1, by omega, fun u hu => by
        by_cases e : u = n + 1
        · rw[e]; exact bg _
        · have := h u (by omega); omega⟩
theorem Circ.none (k:Circ A m N h c r n):False:=by
 obtain⟨t,ht,top⟩:=aLt c k.n0
 have st:=k.st t ht
 have e1:h (t+1) (r t)=c t:=st.at_r
 have e0:h t (r t)≠c t:=st.new st.rm
 obtain⟨s,hs,es,eo⟩:∃ s,s<n/\r t=r s/\h s (r t)=c t:=by
  by_cases q:h n (r t)=c t
  ·have q0:h 0 (r t)=c t:=by rw[<- k.cl _ st.rm];exact q
   have:h (0+t) (r t)≠h 0 (r t):=by
    rw[Nat.zero_add,q0];exact e0
   obtain⟨u,h1,h2,h3,h4⟩:=change (f:=fun x=>h x (r t)) (a:=0) (n:=t) this
   have h3:h u (r t)=h 0 (r t):=h3
   have h4:h (u+1) (r t)≠h 0 (r t):=h4
   obtain⟨x1,_⟩:=(k.st u (by omega)).same (i:=r t) (by rw[h3];exact h4)
   exact ⟨u,by omega,x1,by rw[h3,q0]⟩
  ·obtain⟨d,hd⟩:∃ d,n=t+1+d:=⟨n - (t+1),by omega⟩
   have:h (t+1+d) (r t)≠h (t+1) (r t):=by
    rw[<- hd,e1];exact q
   obtain⟨u,h1,h2,h3,h4⟩:=change (f:=fun x=>h x (r t)) (a:=t+1) (n:=d) this
   have h3:h u (r t)=h (t+1) (r t):=h3
   have h4:h (u+1) (r t)≠h (t+1) (r t):=h4
   obtain⟨x1,_⟩:=(k.st u (by omega)).same (i:=r t) (by rw[h3];exact h4)
   exact ⟨u,by omega,x1,by rw[h3,e1]⟩
 have ss:=k.st s hs
 have rs:h s (r s)=c t:=by rw[<- es];exact eo
 have lt:c s<c t:=by
  have:=top s hs
  have:c s≠c t:=fun e=>ss.new ss.rm (rs.trans e.symm)
  omega
 have two:=(k.ok s).two (g:=h t) (s:=c s) (by have:=ss.cN;omega)
 have z1:0<=dd A m (h s)*R A m (h t) m (c s):=iy (pe (k.ok s).d0) (st.fst _ lt)
 have z2:0<(- R A m (h s) m (c s))*dd A m (h t):=q9 (by have:=ss.neg;omega) (k.ok t).d0
 rw[ka] at z2
 obtain⟨i,hi,pos⟩:=aBy (n:=m) (f:=fun i=>R A m (h s) i (c s)*R A m (h t) m (h s i)) (by omega)
 have pos:0<R A m (h s) i (c s)*R A m (h t) m (h s i):=pos
 have ne:h t i≠h s i:=fun e=>by
  rw[<- e,Ok.held hi,iw] at pos
  omega
 obtain⟨u,hu,iu,cu⟩:=k.comes hi (gy hs) (gy ht) ne
 have le:h s i<=c t:=by rw[<- cu];exact top u hu
 by_cases eq:h s i=c t
 ·have:i=r s:=(k.ok s).inj hi ss.rm (by rw[eq,rs])
  subst this
  rw[eq] at pos
  have p:=ss.pos
  have q:0<R A m (h s) (r s) (c s)*(- R A m (h t) m (c t)):=q9 p (by have:=st.neg;omega)
  rw[zv] at q
  omega
 ·have p0:=st.fst (h s i) (by omega)
  have p1:0<R A m (h s) i (c s):=by
   apply d8
   intro no
   have:0<=(- R A m (h s) i (c s))*R A m (h t) m (h s i):=iy (by omega) p0
   rw[ka] at this
   omega
  have zi:R A m (h s) i N=0:=by
   rw[k.zero0 hi (gy hs),<- k.zero0 hi (gy hu),iu]
   exact k.still hu
  have zr:=k.still hs
  have:=(ss.tig i hi p1).2 (by rw[zi,zr,y1,y1])
  rw[rs] at this
  omega
theorem aHM (ok:∀ t,Ok A m N (h t))(st:∀ t,Stp A m N (h t) (h (t+1)) (c t) (r t)):False:=by
 obtain⟨a,b,hab,_,e⟩:=aHT (N ^ m) (fun t=>code N (h t) m) fun t _=>aDH (ok t).hN
 have e:=aBa (ok a).hN (ok b).hN e
 refine Circ.none (A:=A) (m:=m) (N:=N) (h:=fun t=>h (a+t)) (c:=fun t=>c (a+t)) (r:=fun t=>r (a+t)) (n:=b - a) ⟨fun t=>ok _,fun t _=>st _,fun i hi=>?_,by omega⟩
 show h (a+(b - a)) i=h (a+0) i
 rw[show a+(b - a)=b by omega]
 exact (e i hi).symm
def Nxt (A:Nat->Vec) (m N:Nat) (h' h:Nat->Nat):Prop:=∃ c r,Stp A m N h h' c r
theorem Ok.acc {h:Nat->Nat}(k:Ok A m N h):Acc (Nxt A m N) h:=by
 apply d8
 intro na
 let S:={ g:Nat->Nat // Ok A m N g/\¬ Acc (Nxt A m N) g }
 have nx:∀ x:S,∃ y:S,∃ c r,Stp A m N x.1 y.1 c r:=fun x=>by
  apply d8
  intro no
  refine x.2.2 (Acc.intro _ fun y ⟨c,r,s⟩=>?_)
  apply d8
  intro ny
  exact no ⟨⟨y,x.2.1.step s,ny⟩,c,r,s⟩
 have nx2:∀ x:S,∃ q:S × Nat × Nat,Stp A m N x.1 q.1.1 q.2.1 q.2.2:=fun x=>let ⟨y,c,r,s⟩:=nx x;⟨(y,c,r),s⟩
 let f:S->S × Nat × Nat:=fun x=>Classical.choose (nx2 x)
 have hf:∀ x:S,Stp A m N x.1 (f x).1.1 (f x).2.1 (f x).2.2:=fun x=>Classical.choose_spec (nx2 x)
 let sq:Nat->S:=fun t=>Nat.rec ⟨h,k,na⟩ (fun _ x=>(f x).1) t
 exact aHM (h:=fun t=>(sq t).1) (c:=fun t=>(f (sq t)).2.1) (r:=fun t=>(f (sq t)).2.2) (fun t=>(sq t).2.1) fun t=>hf (sq t)
end
theorem aCT {f g:Nat->Int}{n:Nat}(h:∀ k,k<n->f k<=g k):sumN n f<=sumN n g:=by
 induction n with
 | zero=>exact vc _
 | succ n ih=>
  have h1:=ih fun k hk=>h k (by omega)
  have h2:=h n (by omega)
  show sumN n f+f n<=sumN n g+g n
  omega
theorem aAc {f:Nat->Nat->Int}{a:Nat}:∀ b:Nat,sumN a (fun i=>sumN b fun j=>f i j)=sumN b fun j=>sumN a fun i=>f i j
 | 0=>nM fun _ _=>rfl
 | b+1=>by
  show sumN a (fun i=>sumN b (fun j=>f i j)+f i b)=sumN b (fun j=>sumN a fun i=>f i j)+sumN a fun i=>f i b
  rw[kK,aAc b]
theorem aCH {B X:Int}(hB:0<=B)(hX:0<=X){L:Nat}(hL:(L:Int)*B<=X):∀ {M:Nat} {b:Tup},M<=L->(∀ k r,-B<=b k r/\b k r<=B)->-(X ^ M)<=det M b/\det M b<=X ^ M:=by
 intro M
 induction M with
 | zero=>intro b _ _;simp [det]
 | succ M ih=>
  intro b hM hb
  have key:∀ i,-(B*X ^ M)<=sg (i+M)*(b i M*det M (skip i b))/\sg (i+M)*(b i M*det M (skip i b))<=B*X ^ M:=fun i=>by
   have h1:=ih (b:=skip i b) (by omega) fun k r=>by unfold skip;split <;> exact hb _ _
   have h2:=hb i M
   generalize det M (skip i b)=d at *
   generalize b i M=e at *
   generalize X ^ M=Y at *
   have a1:d.natAbs<=Y.toNat:=by omega
   have a2:e.natAbs<=B.toNat:=by omega
   have a3:(e*d).natAbs<=(B*Y).toNat:=by
    rw[t7]
    have:B.toNat*Y.toNat=(B*Y).toNat:=by
     rw[<- Int.toNat_mul] <;> omega
    rw[<- this]
    exact Nat.mul_le_mul a2 a1
   have a4:0<=B*Y:=iy hB (by omega)
   unfold sg
   split <;> omega
  have s1:sumN (M+1) (fun i=>sg (i+M)*(b i M*det M (skip i b)))<=sumN (M+1) fun _=>B*X ^ M:=aCT fun i _=>(key i).2
  have s2:sumN (M+1) (fun _=>-(B*X ^ M))<=sumN (M+1) fun i=>sg (i+M)*(b i M*det M (skip i b)):=aCT fun i _=>(key i).1
  have cs:∀ (y:Int) (n:Nat),sumN n (fun _=>y)=(n:Int)*y:=fun y n=>by
   induction n with
   | zero=>simp [sumN]
   | succ n ih=>show sumN n (fun _=>y)+y=_;rw[ih,Int.natCast_add,xu];omega
  rw[cs] at s1 s2
  have p:0<=X ^ M:=Int.pow_nonneg hX
  have t:((M+1:Nat):Int)*(B*X ^ M)<=X ^ (M+1):=by
   rw[<- fk,Int.pow_succ,ez (X ^ M)]
   refine jd (Int.le_trans (jd ?_ hB) hL) p
   omega
  rw[zv] at s2
  show -(X ^ (M+1))<=sumN (M+1) _/\sumN (M+1) _<=X ^ (M+1)
  omega
section
variable {m k:Nat}{co:Nat->Nat->Int}{ob wy:Nat->Int}
def A0 (m k:Nat) (co:Nat->Nat->Int) (ob wy:Nat->Int):Nat->Vec:=fun j c=>if j<k then (if c<m then co j c else if c=m then ob j else 0) else if j<k+m then (if c=j - k then 1 else 0) else if c<m then wy c else 0
theorem A0_slack {p:Nat}(hp:p<m):(A0 m k co ob wy) (k+p)=unit p:=by
 funext c
 unfold A0 unit
 rw[if_neg (by omega),if_pos (by omega),show k+p - k=p by omega]
theorem A0_step {j c:Nat}(hj:j<k)(hc:c<m):(A0 m k co ob wy) j c=co j c:=by unfold A0;rw[if_pos hj,if_pos hc]
theorem A0_ob {j:Nat}(hj:j<k):(A0 m k co ob wy) j m=ob j:=by unfold A0;rw[if_pos hj,if_neg (by omega),if_pos rfl]
theorem A0_wy {c:Nat}(hc:c<m):(A0 m k co ob wy) (k+m) c=wy c:=by unfold A0;rw[if_neg (by omega),if_neg (by omega),if_pos hc]
theorem A0_w0:(A0 m k co ob wy) (k+m) m=0:=by unfold A0;rw[if_neg (by omega),if_neg (by omega),if_neg (by omega)]
theorem A0_out {j c:Nat}(hc:m<c):(A0 m k co ob wy) j c=0:=by
 unfold A0
 split
 ·rw[if_neg (by omega),if_neg (by omega)]
 ·split
  ·rw[if_neg (by omega)]
  ·rw[if_neg (by omega)]
def h0 (k:Nat):Nat->Nat:=fun i=>k+i
theorem bv0 {i:Nat}(hi:i<=m):bv (A0 m k co ob wy) m (h0 k) i=unit i:=by
 unfold bv
 split
 ·rename_i h;exact A0_slack h
 ·rw[show i=m by omega]
theorem aDP {v:Vec}{n:Nat}(h:∀ c,n<=c->v c=0):v=fun c=>sumN n fun p=>v p*unit p c:=by
 funext c
 by_cases hc:c<n
 ·rw[iR hc fun p _ hne=>by show v p*(if c=p then 1 else 0)=0;rw[if_neg (ig hne),iw]]
  show v c=v c*(if c=c then 1 else 0)
  rw[if_pos rfl,ot]
 ·rw[h c (by omega),nM fun p hp=>by show v p*(if c=p then 1 else 0)=0;rw[if_neg (by omega),iw]]
theorem dd0:dd (A0 m k co ob wy) m (h0 k)=1:=by
 unfold dd
 rw[aAl (b':=unit) fun i hi=>bv0 (by omega),aBe]
theorem R0 {i j:Nat}(hi:i<=m):R (A0 m k co ob wy) m (h0 k) i j=(A0 m k co ob wy) j i:=by
 unfold R
 rw[aDP (v:=(A0 m k co ob wy) j) (n:=m+1) fun c hc=>A0_out (by omega),wG (by omega),iR (i:=i) (by omega) fun p hp hne=>?_]
 ·have:up (bv (A0 m k co ob wy) m (h0 k)) i (unit i)=bv (A0 m k co ob wy) m (h0 k):=by
   have e:unit i=bv (A0 m k co ob wy) m (h0 k) i:=(bv0 hi).symm
   rw[e,kA]
  rw[this]
  have:det (m+1) (bv (A0 m k co ob wy) m (h0 k))=1:=dd0
  rw[this,ot]
  show _=sumN (m+1) fun p=>(A0 m k co ob wy) j p*unit p i
  rw[iR (i:=i) (by omega) fun p _ hne=>by show (A0 m k co ob wy) j p*(if i=p then 1 else 0)=0;rw[if_neg (ig hne),iw]]
  show _=(A0 m k co ob wy) j i*(if i=i then 1 else 0)
  rw[if_pos rfl,ot]
 ·rw[iL (i:=p) (j:=i) (by omega) (by omega) hne (by rw[lR hne,fN,bv0 (by omega)]),iw]
theorem ok0 (hw:∀ p,p<m->0<=wy p):Ok (A0 m k co ob wy) m (k+m) (h0 k):=by
 refine ⟨by rw[dd0];decide,fun i hi=>by show k+i<k+m;omega,fun j hj c=>?_,fun i hi=>?_⟩
 ·rw[dd0,Int.one_mul]
  have e:=congrFun (aDP (v:=(A0 m k co ob wy) j) (n:=m+1) fun c hc=>A0_out (by omega)) c
  rw[e]
  refine dF fun p hp=>?_
  rw[R0 (by omega),bv0 (by omega)]
 ·rw[R0 (by omega),A0_wy hi];exact hw i hi
def zz (m:Nat) (x:Nat->Int) (v:Vec):Int:=v m+sumN m fun p=>x p*v p
theorem aIy {x a:Nat->Int}{w:Nat->Vec}(n:Nat):zz m x (fun c=>sumN n fun i=>a i*w i c)=sumN n fun i=>a i*zz m x (w i):=by
 unfold zz
 have e:(fun p=>x p*sumN n fun i=>a i*w i p)=fun p=>sumN n fun i=>a i*(x p*w i p):=by
  funext p
  rw[<- gW]
  exact dF fun i _=>gh ..
 rw[e,aAc]
 have e2:(fun i=>a i*(w i m+sumN m fun p=>x p*w i p))=fun i=>a i*w i m+sumN m fun p=>a i*(x p*w i p):=by
  funext i
  rw[o7,gW]
 rw[e2,kK]
theorem unb {h:Nat->Nat}{c:Nat}{x:Nat->Int}(ok:Ok (A0 m k co ob wy) m (k+m) h)(hx:∀ p,p<m->0<=x p)(hz:∀ j,j<k->0<=ob j+sumN m fun p=>x p*co j p)(hc:c<k+m)(neg:R (A0 m k co ob wy) m h m c<0):∃ i,i<m/\0<R (A0 m k co ob wy) m h i c:=by
 have zc:∀ j,j<k+m->0<=zz m x ((A0 m k co ob wy) j):=fun j hj=>by
  unfold zz
  by_cases q:j<k
  ·rw[A0_ob q,dF (g:=fun p=>x p*co j p) fun p hp=>by rw[A0_step q hp]]
   exact hz j q
  ·obtain⟨p,rfl⟩:∃ p,j=k+p:=⟨j - k,by omega⟩
   rw[A0_slack (by omega)]
   have:0<=sumN m fun q=>x q*unit p q:=qV fun q hq=>iy (hx q hq) (by unfold unit;split <;> decide)
   have:unit p m=0:=if_neg (by omega)
   omega
 have e:dd (A0 m k co ob wy) m h*zz m x ((A0 m k co ob wy) c)=sumN (m+1) fun i=>R (A0 m k co ob wy) m h i c*zz m x (bv (A0 m k co ob wy) m h i):=by
  rw[<- aIy]
  have:(fun q=>sumN (m+1) fun i=>R (A0 m k co ob wy) m h i c*bv (A0 m k co ob wy) m h i q)=fun q=>dd (A0 m k co ob wy) m h*(A0 m k co ob wy) c q:=by
   funext q
   rw[ok.ex c (by omega) q]
  rw[this]
  unfold zz
  rw[o7,<- gW]
  congr 1
  exact dF fun p _=>gh ..
 have e2:sumN (m+1) (fun i=>R (A0 m k co ob wy) m h i c*zz m x (bv (A0 m k co ob wy) m h i))=sumN m (fun i=>R (A0 m k co ob wy) m h i c*zz m x ((A0 m k co ob wy) (h i)))+R (A0 m k co ob wy) m h m c:=by
  show sumN m _+R (A0 m k co ob wy) m h m c*zz m x (bv (A0 m k co ob wy) m h m)=_
  have:zz m x (bv (A0 m k co ob wy) m h m)=1:=by
   rw[aJQ]
   unfold zz
   rw[nM fun p hp=>by show x p*(if p=m then 1 else 0)=0;rw[if_neg (by omega),iw]]
   show (if m=m then (1:Int) else 0)+0=1
   rw[if_pos rfl]
   rfl
  rw[this,ot]
  congr 1
  exact dF fun i hi=>by rw[yK hi]
 have p:0<=dd (A0 m k co ob wy) m h*zz m x ((A0 m k co ob wy) c):=iy (pe ok.d0) (zc c hc)
 obtain⟨i,hi,pos⟩:=aBy (n:=m) (f:=fun i=>R (A0 m k co ob wy) m h i c*zz m x ((A0 m k co ob wy) (h i))) (by omega)
 refine ⟨i,hi,?_⟩
 have zi:=zc (h i) (ok.hN i hi)
 have pos:0<R (A0 m k co ob wy) m h i c*zz m x ((A0 m k co ob wy) (h i)):=pos
 apply d8
 intro no
 have:0<=(- R (A0 m k co ob wy) m h i c)*zz m x ((A0 m k co ob wy) (h i)):=iy (by omega) zi
 rw[ka] at this
 omega
theorem no_opp {h:Nat->Nat}(ok:Ok (A0 m k co ob wy) m (k+m) h){i j:Nat}(hi:i<m)(hj:j<m)(e:∀ c,(A0 m k co ob wy) (h i) c = -1*(A0 m k co ob wy) (h j) c)(hij:i≠j):False:=by
 have:dd (A0 m k co ob wy) m h=0:=by
  unfold dd
  have:bv (A0 m k co ob wy) m h=up (bv (A0 m k co ob wy) m h) i (fun c=>-1*bv (A0 m k co ob wy) m h j c):=by
   have:(fun c=>-1*bv (A0 m k co ob wy) m h j c)=bv (A0 m k co ob wy) m h i:=by
    funext c
    rw[yK hi,yK hj,e c]
   rw[this,kA]
  rw[this,qG (by omega),iL (i:=i) (j:=j) (by omega) (by omega) hij (by rw[fN,lR (ig hij)]),iw]
 have:=ok.d0
 omega
theorem R_bound {h:Nat->Nat}{i j:Nat}(hm:m<=15)(hc:∀ j c,-2<=co j c/\co j c<=2)(ho:∀ j,-2<=ob j/\ob j<=2)(hw:∀ p,0<=wy p/\wy p<=1000000):(R (A0 m k co ob wy) m h i j).natAbs<2 ^ 400:=by
 have ha:∀ j c,-1000000<=(A0 m k co ob wy) j c/\(A0 m k co ob wy) j c<=1000000:=fun j c=>by
  unfold A0
  have h1:=hc j c
  have h2:=ho j
  have h3:=hw c
  repeat' split
  all_goals omega
 have hb:∀ (v:Nat->Nat->Int),(∀ a c,-1000000<=v a c/\v a c<=1000000)->(det (m+1) v).natAbs<2 ^ 400:=fun v hv=>by
  have:=aCH (B:=1000000) (X:=16777216) (L:=16) (by decide) (by decide) (by decide) (M:=m+1) (b:=v) (by omega) hv
  have p:(16777216:Nat) ^ (m+1)<2 ^ 400:=bq (cg (by decide) (show m+1<=16 by omega)) (by
   rw[show (16777216:Nat)=2 ^ 24 from rfl,<- Nat.pow_mul]
   exact Nat.pow_lt_pow_right (by decide) (by decide))
  have q:(16777216:Int) ^ (m+1)=((16777216 ^ (m+1):Nat):Int):=(Int.natCast_pow 16777216 (m+1)).symm
  rw[q] at this
  generalize (16777216:Nat) ^ (m+1)=y at *
  generalize (2:Nat) ^ 400=z at *
  omega
 unfold R
 refine hb _ fun a c=>?_
 unfold up bv unit
 split
 ·exact ha _ _
 ·split
  ·exact ha _ _
  ·show -1000000<=(if c=m then (1:Int) else 0)/\(if c=m then (1:Int) else 0)<=1000000
   split <;> decide
theorem dd_bound {h:Nat->Nat}(hm:m<=15)(hc:∀ j c,-2<=co j c/\co j c<=2)(ho:∀ j,-2<=ob j/\ob j<=2)(hw:∀ p,0<=wy p/\wy p<=1000000):(dd (A0 m k co ob wy) m h).natAbs<2 ^ 400:=by
 by_cases m0:0<m
 ·have:dd (A0 m k co ob wy) m h=R (A0 m k co ob wy) m h 0 (h 0):=by unfold dd R;rw[<- yK (A:=(A0 m k co ob wy)) (h:=h) m0,kA]
  rw[this]
  exact R_bound hm hc ho hw
 ·obtain rfl:m=0:=by omega
  have:dd (A0 0 k co ob wy) 0 h=1:=by
   unfold dd
   rw[aAl (b':=unit) fun i hi=>by obtain rfl:i=0:=(by omega);exact aJQ,aBe]
  rw[this]
  exact Nat.one_lt_two_pow (by decide)
end
def Rem (A:Nat->Vec) (m N:Nat):Nat->(Nat->Nat)->Prop
 | 0,h=>∀ h',¬ Nxt A m N h' h
 | k+1,h=>∀ h',Nxt A m N h' h->Rem A m N k h'
section
variable {A:Nat->Vec}{m N:Nat}
theorem Rem.up:∀ {k:Nat} {h:Nat->Nat},Rem A m N k h->Rem A m N (k+1) h
 | 0,_,r=>fun h' n=>absurd n (r h')
 | _+1,_,r=>fun h' n=>Rem.up (r h' n)
theorem Rem.ups {k:Nat}{h:Nat->Nat}(r:Rem A m N k h):∀ d:Nat,Rem A m N (k+d) h
 | 0=>r
 | d+1=>(r.ups d).up
theorem bnd {P:Nat->Nat->Prop}(up:∀ x k d,P x k->P x (k+d)):∀ M:Nat,(∀ x,x<M->∃ k,P x k)->∃ k,∀ x,x<M->P x k
 | 0,_=>⟨0,fun x h=>by omega⟩
 | M+1,h=>by
  obtain⟨k,hk⟩:=bnd up M fun x hx=>h x (by omega)
  obtain⟨l,hl⟩:=h M (by omega)
  refine ⟨k+l,fun x hx=>?_⟩
  by_cases c:x=M
  ·subst c;rw[Nat.add_comm];exact up _ _ _ hl
  ·exact up _ _ _ (hk x (by omega))
theorem Ok.rem {h:Nat->Nat}(k:Ok A m N h):∃ j,Rem A m N j h:=by
 have a:=k.acc
 induction a with
 | intro h _ ih=>
  have h1:∀ c,c<N->∃ j,∀ r,r<m->Stp A m N h (put h r c) c r->Rem A m N j (put h r c):=fun c _=>
   bnd (P:=fun r j=>Stp A m N h (put h r c) c r->Rem A m N j (put h r c)) (fun r j d q s=>(q s).ups d) m fun r _=>by
    by_cases s:Stp A m N h (put h r c) c r
    ·obtain⟨j,hj⟩:=ih _ ⟨c,r,s⟩ (k.step s)
     exact ⟨j,fun _=>hj⟩
    ·exact ⟨0,fun z=>absurd z s⟩
  obtain⟨j,hj⟩:=bnd (P:=fun c j=>∀ r,r<m->Stp A m N h (put h r c) c r->Rem A m N j (put h r c)) (fun c j d q r hr s=>(q r hr s).ups d) N h1
  refine ⟨j+1,fun h' ⟨c,r,s⟩=>?_⟩
  have e:=s.eq
  subst e
  exact hj c s.cN r s.rm s
def Le (x y:Nat->Int) (hd:Nat->Nat) (a b:Nat):Prop:=x a*y b<=x b*y a/\(x a*y b=x b*y a->hd a<=hd b)
theorem Le.refl (x y:Nat->Int)(hd:Nat->Nat)(a:Nat):Le x y hd a a:=⟨vc _,fun _=>bg _⟩
theorem Le.trans {x y:Nat->Int}{hd:Nat->Nat}{a b c:Nat}(ha:0<y a)(hb:0<y b)(hc:0<y c)(h1:Le x y hd a b)(h2:Le x y hd b c):Le x y hd a c:=by
 refine ⟨kT ha hb hc h1.1 h2.1,fun e=>?_⟩
 have e1:x b*y a<=x a*y b:=kT hb hc ha h2.1 (Int.le_of_eq e.symm)
 have e2:x c*y b<=x b*y c:=kT hc ha hb (Int.le_of_eq e.symm) h1.1
 exact dg (h1.2 (wj h1.1 e1)) (h2.2 (wj h2.1 e2))
theorem Le.of_not {x y:Nat->Int}{hd:Nat->Nat}{a b:Nat}(h:(decide (x a*y b<x b*y a) || (decide (x a*y b=x b*y a) && decide (hd a<hd b)))=false):Le x y hd b a:=by
 rw[Bool.or_eq_false_iff] at h
 have h1:=of_decide_eq_false h.1
 refine ⟨by omega,fun e=>?_⟩
 have h2:=h.2
 rw[decide_eq_true e.symm,fm] at h2
 have:=of_decide_eq_false h2
 omega
theorem Le.of_yes {x y:Nat->Int}{hd:Nat->Nat}{a b:Nat}(h:(decide (x a*y b<x b*y a) || (decide (x a*y b=x b*y a) && decide (hd a<hd b)))=true):Le x y hd a b:=by
 rw[Bool.or_eq_true,du] at h
 rcases h with h | ⟨h1,h2⟩
 ·have:=of_decide_eq_true h
  exact ⟨by omega,fun e=>by omega⟩
 ·have h1:=of_decide_eq_true h1
  have h2:=of_decide_eq_true h2
  exact ⟨by omega,fun _=>by omega⟩
end
end Sh
namespace K40
open PySem L2
section
variable {K:aa}{vars:List Nat}{tb:TS}{acc a:Addr}{σ:St}{H:Hp}{xs ys:List V}{g:TG}
theorem oK {L:Nat->List V}(hs:∀ H',SameX acc H H'->SqL K H' a xs)
  (h:∀ i x σ' H',xs[i]?=some x->σ'.length=σ.length->Agree vars σ σ'->SameX acc H H'->∃ σ2:St,σ2.length=σ.length/\Agree vars σ σ2/\(∀ N:St->Hp->Prop,N σ2 H'->g x σ' H' N)/\Emits vars tb acc σ2 H' (L i)) :
  Emits vars (iO (Itl K a) g tb) acc σ H ((av xs.length).flatMap L):=by
 intro D pre ha hz hd
 refine cX (K:=K) (a:=a) (xs:=xs) (g:=g) (D:=D) (fun i σ' H'=>i<=xs.length/\σ'.length=σ.length/\Agree vars σ σ'/\SameX acc H H'/\H' acc=some (.lst (pre++(av i).flatMap L))) ⟨ay _,rfl,Agree.refl _ _,SameX.refl _ _,by simpa using ha⟩ (fun i σ1 H1 _ ⟨_,_,_,sx1,_⟩=>hs H1 sx1) (fun i x σ1 H1 hx ⟨_,hl1,ag1,sx1,h1⟩=>?_) fun σ1 H1 ⟨_,hl1,ag1,sx1,h1⟩=>hd σ1 H1 hl1 ag1 sx1 h1
 have hi:i<xs.length:=(ai.mp hx).1
 have hle:=dC L (show i+1<=xs.length from hi)
 rw[aT,az] at hle
 obtain⟨σ2,l2,ag2,run,em⟩:=h i x σ1 H1 hx hl1 ag1 sx1
 refine run _ (em _ _ h1 (by rw[az];omega) fun σ' H' hl ag sx h2=>⟨hi,hl.trans l2,ag2.trans ag,sx1.trans sx,by rw[h2,aT,ip]⟩)
theorem aDo {l1 l2:Addr}{b1 b2:Bool}{L:Nat->List V}(hlen:ys.length=xs.length)(hs:∀ H',SameX acc H H'->SqB b1 K H' l1 xs/\SqB b2 K H' l2 ys)
  (h:∀ i x y σ' H' p,xs[i]?=some x->ys[i]?=some y->H' p=none->σ'.length=σ.length->Agree vars σ σ'->SameX acc H H'->∃ σ2:St,σ2.length=σ.length/\Agree vars σ σ2/\(∀ N:St->Hp->Prop,N σ2 (upd H' p (.tup [x,y]))->g (.ref p) σ' (upd H' p (.tup [x,y])) N)/\Emits vars tb acc σ2 (upd H' p (.tup [x,y])) (L i)) :
  Emits vars (iO (Itz K b1 b2 l1 l2) g tb) acc σ H ((av xs.length).flatMap L):=by
 intro D pre ha hz hd
 refine aHf (K:=K) (l1:=l1) (l2:=l2) (xs:=xs) (ys:=ys) (g:=g) (D:=D) hlen (fun i σ' H'=>i<=xs.length/\σ'.length=σ.length/\Agree vars σ σ'/\SameX acc H H'/\H' acc=some (.lst (pre++(av i).flatMap L))) ⟨ay _,rfl,Agree.refl _ _,SameX.refl _ _,by simpa using ha⟩ (fun i σ1 H1 _ ⟨_,_,_,sx1,_⟩=>hs H1 sx1) (fun i x y σ1 H1 p hx hy hp ⟨_,hl1,ag1,sx1,h1⟩=>?_) fun σ1 H1 ⟨_,hl1,ag1,sx1,h1⟩=>hd σ1 H1 hl1 ag1 sx1 h1
 have hi:i<xs.length:=(ai.mp hx).1
 have hle:=dC L (show i+1<=xs.length from hi)
 rw[aT,az] at hle
 obtain⟨σ2,l2,ag2,run,em⟩:=h i x y σ1 H1 p hx hy hp hl1 ag1 sx1
 have mp:=aG hp (.tup [x,y])
 refine run _ (em _ _ (mp _ _ h1) (by rw[az];omega) fun σ' H' hl ag sx h2=>⟨hi,hl.trans l2,ag2.trans ag,(sx1.trans mp.x).trans sx,by rw[h2,aT,ip]⟩)
end
theorem qA {α:Type}(L:List Nat)(f:Nat->α):(L.flatMap fun k=>[f k])=L.map f:=by
 induction L with
 | nil=>rfl
 | cons a L ih=>rw[km,ih];rfl
def dS (n:Nat):List (Nat × Nat):=(av n).flatMap fun i=>(av (n - (i+1))).map fun d=>(i,i+1+d)
def iH:Nat->List (List Nat)
 | 0=>[[]]
 | n+1=>iH n++(iH n).map (· ++ [n])
def fD (n:Nat):List (List Nat):=((iH n).drop 1).take ((iH n).length - 1 - 1)
def okS (n:Nat) (s:List Nat):Bool:=s == [0] || (!s.contains 0 && decide (s.length<n - 1))
def yW (n:Nat):List (List Nat):=(fD n).filter (okS n)
def gZ (n:Nat):List (List Nat × Int):=(yW n).map (fun s=>(s,1))++((yW n).filter fun s=>s.length == 1).map fun s=>(s,-1)
def prt (s:List Nat) (i j:Nat):Bool:=s.contains i != s.contains j
def nN (L:List (List Nat)):List (List Int):=L.map fun s=>s.map Int.ofNat
theorem jJ {L:List (List Nat)}:(nN L).length=L.length:=by unfold nN;rw[af]
theorem nK:∀ n:Nat,(iH n).length=2 ^ n
 | 0=>rfl
 | n+1=>by
  show (iH n++(iH n).map _).length=_
  rw[az,af,nK n,Nat.pow_succ]
  omega
theorem iW:∀ (n:Nat),∀ s∈iH n,s.length<=n/\∀ x∈s,x<n
 | 0,s,h=>by
  obtain rfl:s=[]:=by simpa [iH] using h
  exact ⟨bg _,fun x hx=>by cases hx⟩
 | n+1,s,h=>by
  rcases dv.mp (show s∈iH n++(iH n).map (· ++ [n]) from h) with h | h
  ·have:=iW n s h
   exact ⟨by omega,fun x hx=>by have:=this.2 x hx;omega⟩
  ·obtain⟨t,ht,rfl⟩:=fh.mp h
   have:=iW n t ht
   refine ⟨by rw[az];simp;omega,fun x hx=>?_⟩
   rcases dv.mp hx with hx | hx
   ·have:=this.2 x hx;omega
   ·obtain rfl:x=n:=by simpa using hx
    omega
theorem aAU {n:Nat}{s:List Nat}(h:s∈fD n):s.length<=n/\∀ x∈s,x<n:=iW n s (List.mem_of_mem_drop (List.mem_of_mem_take h))
section
variable {K:aa}{H H':Hp}
theorem aFv {xs:List V}{T:List (List Int)}(h:Rows K H xs T)(a b:Nat):Rows K H ((xs.drop a).take b) ((T.drop a).take b):=by
 refine ⟨by rw[df,df,gv,gv,h.1],fun i row e=>?_⟩
 rw[List.getElem?_take] at e ⊢
 split at e
 ·rename_i hi
  rw[j6] at e
  obtain⟨c,e1,e2⟩:=h.2 _ row e
  exact ⟨c,by rw[if_pos hi,j6];exact e1,e2⟩
 ·cases e
theorem xD {xs:List V}{L:List (List Nat)}(h:Rows K H xs (nN L)){i:Nat}{x:V}(hx:xs[i]?=some x):∃ s b,L[i]?=some s/\x = .ref b/\SqT K H b (s.map fI):=by
 have hi:i<xs.length:=(ai.mp hx).1
 have hl:i<L.length:=by rw[h.1,jJ] at hi;exact hi
 obtain⟨b,e1,e2⟩:=h.2 i (L[i].map Int.ofNat) (by unfold nN;rw[cf,ah hl];rfl)
 rw[hx] at e1
 refine ⟨L[i],b,ah hl,bf e1,?_⟩
 rw[gz] at e2
 exact e2
def RowsS (K:aa) (H:Hp) (xs:List V) (L:List (List Nat × Int)):Prop:=xs.length=L.length/\∀ (i:Nat) (e:List Nat × Int),L[i]?=some e->∃ b q,xs[i]?=some (.ref b)/\SqT K H b [.ref q, .int e.2]/\SqT K H q (e.1.map fI)
theorem RowsS.same {xs:List V}{L:List (List Nat × Int)}(h:RowsS K H xs L)(s:Same H H'):RowsS K H' xs L:=⟨h.1,fun i e he=>by
 obtain⟨b,q,e1,e2,e3⟩:=h.2 i e he
 exact ⟨b,q,e1,s.tup e2,s.tup e3⟩⟩
theorem RowsS.x {xs ys:List V}{L:List (List Nat × Int)}{p:Addr}(h:RowsS K H xs L)(hp:H p=some (.lst ys))(s:SameX p H H'):RowsS K H' xs L:=⟨h.1,fun i e he=>by
 obtain⟨b,q,e1,e2,e3⟩:=h.2 i e he
 exact ⟨b,q,e1,lU e2 hp s,lU e3 hp s⟩⟩
theorem RowsS.app {xs ys:List V}{L M:List (List Nat × Int)}(h:RowsS K H xs L)(g:RowsS K H ys M):RowsS K H (xs++ys) (L++M):=by
 refine ⟨by rw[az,az,h.1,g.1],fun i e he=>?_⟩
 by_cases hi:i<L.length
 ·rw[dj hi] at he
  obtain⟨b,q,e1,e2,e3⟩:=h.2 i e he
  exact ⟨b,q,by rw[dj (by rw[h.1];exact hi)];exact e1,e2,e3⟩
 ·rw[da (by omega)] at he
  obtain⟨b,q,e1,e2,e3⟩:=g.2 _ e he
  exact ⟨b,q,by rw[da (by rw[h.1];omega),h.1];exact e1,e2,e3⟩
theorem aBQ {xs:List V}{L:List (List Nat × Int)}(h:RowsS K H xs L){i:Nat}{x:V}(hx:xs[i]?=some x):∃ e b q,L[i]?=some e/\x = .ref b/\SqT K H b [.ref q, .int e.2]/\SqT K H q (e.1.map fI):=by
 have hi:i<xs.length:=(ai.mp hx).1
 have hl:i<L.length:=by rw[<- h.1];exact hi
 obtain⟨b,q,e1,e2,e3⟩:=h.2 i L[i] (ah hl)
 rw[hx] at e1
 exact ⟨L[i],b,q,ah hl,bf e1,e2,e3⟩
theorem aJB (n d:Nat):HT.sIx n d (some (-1))=n - 1:=by
 show (if (-1:Int)<0 then ((-1:Int)+(n:Int)).toNat else min (-1:Int).toNat n)=n - 1
 rw[if_pos (by decide)]
 omega
theorem aEb {xs:List V}{a:Nat}(h:a<=xs.length):tJ xs (some (a:Int)) (some (-1))=(xs.drop a).take (xs.length - 1 - a):=by
 unfold tJ
 rw[HT.sIx_nat,aJB,qr h]
theorem aHr {xs:List V}(h:1<=xs.length):tJ xs (some 1) (some (-1))=(xs.drop 1).take (xs.length - 1 - 1):=aEb (a:=1) h
theorem aFP {xs:List V}:tJ xs none (some (-1))=xs.take (xs.length - 1):=by
 unfold tJ
 rw[HT.sIx_none,aJB,xc]
 rfl
theorem aCx {p:Addr}{xs:List V}{v:V}{Q:VK}(h:SqL K H p xs)(hn:0<xs.length)(hj:xs[xs.length - 1]?=some v)(q:Q v H):bH K (.ref p) (.int (-1)) H Q:=by
 refine .inl ⟨p,xs,-1,v,rfl,rfl,h,?_,q⟩
 unfold atI ixN
 rw[if_neg (by decide),if_pos (by omega),show ((-1:Int)+(xs.length:Int)).toNat=xs.length - 1 by omega]
 exact hj
theorem vC {s:List Nat}{i:Nat}:inV (.int (i:Int)) (s.map fI)=s.contains i:=by
 unfold inV
 rw[wc,List.contains_eq_any_beq]
 congr 1
 funext y
 show eqV (.int (y:Int)) (.int (i:Int))=(i == y)
 unfold eqV
 show decide ((y:Int)=(i:Int))=_
 by_cases c:i=y
 ·subst c;simp
 ·rw[decide_eq_false (by omega),beq_false_of_ne c]
theorem qP {s:List Nat}:(s.map fI).all nI=true:=by
 rw[sa]
 exact e9.mpr fun _ _=>rfl
theorem EmR.mono {vars vars':List Nat}{tb:TS}{acc:Addr}{σ:St}{H:Hp}{L:List (List Int)}(h:EmR K vars tb acc σ H L)(hs:∀ k∈vars,k∈vars'):EmR K vars' tb acc σ H L:=
 fun D pre R ha hR hz hd=>h D pre R ha hR hz fun σ' H' pre' hl ag sx h1 h2=>hd σ' H' pre' hl (fun k hk=>ag k fun z=>hk (hs k z)) sx h1 h2
def aIP (K:aa):Sp:=fun vs H Q _=>∃ n:Nat,vs=[.int (n:Int)]/\n<=8/\∀ F ys H',Same H H'->H F=none->H' F=some (.lst ys)->Rows K H' ys (prN (dS n))->Q (.ref F) H'
theorem yC {n:Nat}(h:n<=8):(dS n).length<=64:=by
 unfold dS
 have:=fP (fun i=>(av (n - (i+1))).map fun d=>(i,i+1+d)) 8 n fun i _=>by rw[af,dy];omega
 omega
theorem aKL:∀ vs H Q E,aIP K vs H Q E->rZ K { nx:=fun _ H'=>Q .non H',rt:=Q } (bD ["many"] vs) H:=by
 intro vs H Q E h
 obtain⟨n,rfl,h8,q⟩:=h
 refine ⟨_,rfl,(n:Int),rfl,by omega,by omega,fun A hA=>?_⟩
 rw[bz]
 have e1:prN (dS n)=(av n).flatMap fun i=>(av (n - (i+1))).flatMap fun d=>[[(i:Int),((i+1+d:Nat):Int)]]:=by
  unfold prN dS
  rw[pD]
  congr 1
  funext i
  rw[gz,qA]
  rfl
 refine aBD (K:=K) [0,1] (prN (dS n)) hA (by rw[lP];have:=yC h8;omega) (EmR.cast (wX (by decide) (by show 0<3;decide) fun i σ1 H1 hi l1 ag1 s1 sx1=>?_) e1.symm) fun σ2 H2 pre m2 hA2 r3=>q A pre H2 m2 hA hA2 r3
 rw[jn] at s1
 have t2:σ1[2]?=some (some (.int (n:Int))):=(ag1 2 (by decide)).trans rfl
 refine EmR.mono (vars:=[1]) (aGq (lo:=(i:Int)+1) (n:=n - (i+1)) (fun R hR=>⟨_,s1,_,t2,_,_,rfl,⟨by omega,by omega,by omega,by omega⟩,by rw[show ((n:Int) - ((i:Int)+1)).toNat=n - (i+1) by omega];exact hR⟩) (by decide) (by rw[l1];show 1<3;decide) fun d σ2 H2 hd l2 ag2 s2 sx2=>?_) (by simp)
 have t0:σ2[0]?=some (some (.int (i:Int))):=(ag2 0 (by decide)).trans s1
 rw[show (i:Int)+1+(d:Int)=((i+1+d:Nat):Int) by omega] at s2
 exact aCP (by show 2<=100;decide) fun R hR=>⟨_,t0,_,s2,hR⟩
def aHD (K:aa):Sp:=fun vs H Q _=>∃ n:Nat,vs=[.int (n:Int)]/\1<=n/\n<=6/\∀ F ys H',Same H H'->H F=none->H' F=some (.lst ys)->Rows K H' ys (nN (fD n))->Q (.ref F) H'
theorem aKm:∀ vs H Q E,aHD K vs H Q E->uO K { nx:=fun _ H'=>Q .non H',rt:=Q } (bD ["many","sets","place"] vs) H:=by
 intro vs H Q E h
 obtain⟨n,rfl,n1,n6,q⟩:=h
 refine ⟨show 0<=ba by decide,fun p hp=>⟨show 1<=ba by decide,fun l hl=>?_⟩⟩
 have mp:=aG hp (.tup [])
 have ml:=aG hl (.lst [V.ref p])
 have m0:=mp.trans ml
 have hl0:(upd (upd H p (.tup [])) l (.lst [V.ref p])) l=some (.lst [V.ref p]):=aD
 have hp0:SqT K (upd (upd H p (.tup [])) l (.lst [V.ref p])) p []:=ml.tup (.of aD)
 have hlH:H l=none:=mp.free hl
 generalize upd (upd H p (.tup [])) l (.lst [V.ref p])=G at *
 refine ⟨_,rfl,(n:Int),rfl,by omega,by omega,?_⟩
 rw[bz]
 refine dP (lo:=0) (n:=n) (fun i σ' H'=>i<=n/\Same H H'/\∃ F x2 ys,σ'=[some (.int (n:Int)),some (.ref F),x2]/\H F=none/\H' F=some (.lst ys)/\Rows K H' ys (nN (iH i))) ⟨ay _,m0,l,none,[.ref p],rfl,hlH,hl0,rfl,fun i row e=>?_⟩ (fun i σ' H1 hi ⟨_,m1,F,x2,ys,es,hF0,hF,r1⟩=>?_) fun σ' H1 ⟨_,m1,F,x2,ys,es,hF0,hF,r1⟩=>?_
 ·match i,e with
  | 0,e=>
   obtain rfl:([]:List Int)=row:=bf e
   exact ⟨p,rfl,hp0⟩
 ·subst es
  rw[jn]
  have yl:ys.length=(iH i).length:=by rw[r1.1,jJ]
  have y64:ys.length<=32:=by
   rw[yl,nK]
   exact dg (cg (by decide) (show i<=5 by omega)) (by decide)
  refine ⟨_,rfl,_,rfl,F,rfl, .inl ⟨⟨_, .of hF⟩,fun A hA=>?_⟩⟩
  refine cX (K:=K) (a:=F) (xs:=ys) (fun j σ2 H2=>j<=ys.length/\Same H1 H2/\(∃ x0,σ2=[x0,some (.int (i:Int))])/\∃ zs,H2 A=some (.lst zs)/\Rows K H2 zs (nN (((iH i).take j).map (· ++ [i])))) ⟨ay _,aG hA _,⟨_,rfl⟩,[],aD,Rows.nil⟩ (fun j σ2 H2 _ ⟨_,s2,_⟩ => .of (s2 _ _ hF)) (fun j x σ2 H2 hx ⟨_,s2,⟨x0,e2⟩,zs,hA2,r2⟩=>?_) fun σ2 H2 ⟨_,s2,_,zs,hA2,r2⟩=>?_
  ·subst e2
   obtain⟨s,b,hs,rfl,hb⟩:=xD (r1.same s2) hx
   have hj:j<ys.length:=(ai.mp hx).1
   have sl:s.length<=i:=(iW i s (bt hs)).1
   refine ⟨_,rfl,_,rfl,show 1<=ba by decide,fun t ht=>?_⟩
   have mt:=aG ht (.tup [V.int (i:Int)])
   refine .inr ⟨b,t,_,_,rfl,rfl,mt.tup hb, .of aD,?_,fun c H3 _ hc s3=>?_⟩
   ·rw[af]
    exact dg (show s.length+1<=10 by omega) (by decide)
   ·have s4:=mt.trans s3
    have hA3:=s4 _ _ hA2
    refine ⟨zs,hA3,bq (show zs.length<=100 by rw[r2.1,jJ,af,df];omega) (by decide),hj,eJ hA (s2.trans s4),⟨_,rfl⟩,_,aD,?_⟩
    rw[gx,hs,cz]
    have:nN (((iH i).take j).map (· ++ [i])++((some s).toList.map (· ++ [i])))=nN (((iH i).take j).map (· ++ [i]))++[(s++[i]).map Int.ofNat]:=by
     unfold nN
     rw[cz]
     rfl
    rw[this]
    refine Rows.put (Rows.snoc (r2.same s4) (b:=c) ?_) hA3
    rw[gz,cz]
    exact hc
  ·have hA4:=s2 _ _ hF
   refine .inl ⟨F,A,ys,zs,rfl,rfl,hA4,hA2,?_,fun F4 hF4=>?_⟩
   ·rw[r2.1,jJ,af,df]
    exact dg (show _<=100 by omega) (by decide)
   ·have m4:=aG hF4 (.lst (ys++zs))
    refine ⟨hi,(m1.trans s2).trans m4,F4,_,ys++zs,rfl,(m1.trans s2).free hF4,aD,?_⟩
    rw[yl,fq] at r2
    have:nN (iH (i+1))=nN (iH i)++nN ((iH i).map (· ++ [i])):=by unfold nN;rw[<- cz];rfl
    rw[this]
    exact (aBt (r1.same s2) r2).same m4
 ·subst es
  refine ⟨_,rfl,1,rfl,1,rfl,_,rfl, .inl ⟨F,ys,rfl, .of hF,fun p' hp'=>?_⟩⟩
  rw[aHr (by rw[r1.1,jJ,nK];exact Nat.one_le_two_pow)]
  have m4:=aG hp' (.lst ((ys.drop 1).take (ys.length - 1 - 1)))
  refine q p' _ _ (m1.trans m4) (m1.free hp') aD ?_
  have:=(aFv r1 1 (ys.length - 1 - 1)).same m4
  have e:nN (fD n)=((nN (iH n)).drop 1).take (ys.length - 1 - 1):=by
   unfold nN fD
   rw[nq,uw,r1.1,jJ]
  rw[e]
  exact this
end
section
variable {K:aa}
def aHE (K:aa):Sp:=fun vs H Q _=>∃ (t:Addr) (s:List Nat) (i j:Nat),vs=[.ref t, .int (i:Int), .int (j:Int)]/\SqT K H t (s.map fI)/\Q (.bl (prt s i j)) H
theorem aIT {a b:Bool}:eqD (.bl a) (.bl b)=(a == b):=by cases a <;> cases b <;> rfl
theorem aKc:∀ vs H Q E,aHE K vs H Q E->sN K { nx:=fun _ H'=>Q .non H',rt:=Q } (bD ["some","i","j"] vs) H:=by
 intro vs H Q E h
 obtain⟨t,s,i,j,rfl,ht,q⟩:=h
 refine ⟨_,rfl,_,rfl,t,_,rfl, .inr ht,rfl,qP,_,rfl,_,rfl,t,_,rfl, .inr ht,rfl,qP, .bl _, .bl _,ay _,rfl,rfl,?_⟩
 rw[aIT]
 show Q (.bl (!(inV (.int (i:Int)) (s.map fI) == inV (.int (j:Int)) (s.map fI)))) H
 rw[vC,vC]
 exact q
theorem iV {s:List Nat}:s.map fI=(s.map Int.ofNat).map V.int:=by rw[gz];rfl
theorem sX {r q:List Int}:eqD (.tup (r.map Dt.int)) (.tup (q.map Dt.int))=decide (r=q):=by rw[eqD];exact aGt
theorem zY {s t:List Nat}:s.map Int.ofNat=t.map Int.ofNat↔s=t:=sv fun a b e=>Int.ofNat.inj e
theorem gT (r:List Int):dep (.tup (r.map Dt.int))<=100:=by
 have:aAe (r.map Dt.int)=0:=by
  induction r with
  | nil=>rfl
  | cons a r ih=>rw[d3,aAe,ih];rfl
 rw[dep,this]
 decide
theorem aHt {n b:Nat}{s:List Nat}{H:Hp}{R:Bool->Hp->Prop}(n1:1<=n)(hb:SqT K H b (s.map fI))(q:∀ H',Same H H'->R (okS n s) H') :
  tOr (bU (tOp (iX K) (aF 0) (iN (aC (tC (.int 0)) aO)))) (aFR (bU (tOp (rIn K true) (tC (.int 0)) (aF 0))) (bU (tOp yLt (tCB (jM K) (aC (aF 0) aO)) (tOp pV (aF 1) (tC (.int 1)))))) [some (.ref b),some (.int (n:Int))] H R:=by
 refine ⟨_,rfl,show 1<=ba by decide,fun p hp=>?_⟩
 have mp:=aG hp (.tup [V.int 0])
 have hb2:SqT K (upd H p (.tup [V.int 0])) b (s.map fI):=mp.tup hb
 have hp2:SqT K (upd H p (.tup [V.int 0])) p (([0]:List Int).map V.int) := .of aD
 generalize upd H p (.tup [V.int 0])=G at *
 refine ⟨.tup ((s.map Int.ofNat).map Dt.int), .tup (([0]:List Int).map Dt.int),gT _,⟨b,_,rfl,by rw[<- iV];exact hb2,ShL.ints _⟩,⟨p,_,rfl,hp2,ShL.ints _⟩,_,rfl,?_⟩
 rw[sX]
 have e0:decide (s.map Int.ofNat=[(0:Int)])=(s == [0]):=by
  by_cases c:s=[0]
  ·subst c;rfl
  ·rw[beq_false_of_ne c]
   exact decide_eq_false fun z=>c (zY.mp (z.trans rfl))
 rw[e0]
 have q:=q G mp
 unfold okS at q
 cases c:s == [0] with
 | true=>
  rw[c] at q
  exact dJ rfl q
 | false=>
  rw[c,qe] at q
  refine cD (by decide) ⟨_,rfl,b,_,rfl, .inr hb2,rfl,qP,_,rfl,?_⟩
  show if (!inV (.int 0) (s.map fI))=true then _ else _
  rw[show inV (.int 0) (s.map fI)=s.contains 0 from vC (i:=0)]
  cases c2:s.contains 0 with
  | true=>
   rw[c2] at q
   exact cD (by decide) q
  | false=>
   rw[c2] at q
   refine dJ rfl ⟨_,rfl,b,_,rfl, .inr hb2,_,rfl,_,_,rfl,rfl,_,_,rfl,rfl,_,rfl,?_⟩
   rw[af]
   have:decide ((s.length:Int)<(n:Int) - 1)=decide (s.length<n - 1):=by
    by_cases d:s.length<n - 1
    ·rw[decide_eq_true d];exact decide_eq_true (by omega)
    ·rw[decide_eq_false d];exact decide_eq_false (by omega)
   rw[this]
   exact q
theorem aDK {A F:Addr}{H:Hp}{ys:List V}{L:List (List Nat)}{c:Int}{p:List Nat->Bool}{ts:List TT}{tc:TE}{D:lO}{x0:Option V}(hA:H A=none)(hF:H F=some (.lst ys))(r:Rows K H ys (nN L))(z:L.length<=100)
  (hts:∀ (tb:TS) (D:lO) (s:List Nat) (b:Addr) (H':Hp),s∈L->SqT K H' b (s.map fI)->(if p s=true then tb D [some (.ref b)] H' else D.nx [some (.ref b)] H')->jV ts tb D [some (.ref b)] H')
  (htc:∀ σ H' (Q:VK),Q (.int c) H'->tc σ H' Q)
  (q:∀ σ' H' zs,Same H H'->H' A=some (.lst zs)->RowsS K H' zs ((L.filter p).map fun s=>(s,c))->D.nx σ' H'):iO (Itl K F) (aK 0) (jV ts (dI (iN (aC (aF 0) (aC tc aO))) A)) D [x0] (upd H A (.lst [])):=by
 have yl:ys.length=L.length:=by rw[r.1,jJ]
 refine cX (K:=K) (a:=F) (xs:=ys) (D:=D) (fun i σ' H'=>i<=ys.length/\Same H H'/\(∃ x0,σ'=[x0])/\∃ zs,H' A=some (.lst zs)/\RowsS K H' zs (((L.take i).filter p).map fun s=>(s,c))) ⟨ay _,aG hA _,⟨_,rfl⟩,[],aD,rfl,fun i e he=>by cases he⟩ (fun i σ1 H1 _ ⟨_,s1,_⟩ => .of (s1 _ _ hF)) (fun i x σ1 H1 hx ⟨_,s1,⟨x1,es⟩,zs,hA1,r1⟩=>?_) fun σ1 H1 ⟨_,s1,_,zs,hA1,r1⟩=>q σ1 H1 zs s1 hA1 (by rw[yl,fq] at r1;exact r1)
 subst es
 have hi:i<ys.length:=(ai.mp hx).1
 obtain⟨s,b,hs,rfl,hb⟩:=xD (r.same s1) hx
 refine hts _ _ s b H1 (bt hs) hb ?_
 have e1:(L.take (i+1)).filter p=(L.take i).filter p++if p s=true then [s] else []:=by
  rw[gx,hs,j7]
  congr 1
  show [s].filter p=_
  by_cases c:p s=true
  ·rw[if_pos c,kz c];rfl
  ·rw[if_neg c,la c];rfl
 by_cases cp:p s=true
 ·rw[if_pos cp] at e1
  refine dJ cp ⟨_,rfl,htc _ _ _ ⟨show 2<=ba by decide,fun t ht=>?_⟩⟩
  have mt:=aG ht (.tup [V.ref b, .int c])
  have hA2:=mt _ _ hA1
  refine ⟨zs,hA2,bq (show zs.length<=100 by rw[r1.1,af];have:=dq p (L.take i);rw[df] at this;omega) (by decide),hi,eJ hA (s1.trans mt),⟨_,rfl⟩,_,aD,?_⟩
  rw[e1,cz]
  refine RowsS.x (H:=upd H1 t (.tup [V.ref b, .int c])) (p:=A) (RowsS.app (r1.same mt) ⟨rfl,fun k e he=>?_⟩) hA2 (SameX.put _)
  match k,he with
  | 0,he=>
   obtain rfl:(s,c)=e:=bf he
   exact ⟨t,b,rfl, .of aD,mt.tup hb⟩
 ·rw[if_neg cp,i4] at e1
  refine cD (by simpa using cp) ⟨hi,s1,⟨_,rfl⟩,zs,hA1,?_⟩
  rw[e1]
  exact r1
def aJS (K:aa):Sp:=fun vs H Q _=>∃ n:Nat,vs=[.int (n:Int)]/\3<=n/\n<=6/\∀ F ys H',Same H H'->H F=none->H' F=some (.lst ys)->RowsS K H' ys (gZ n)->Q (.ref F) H'
theorem vV {n:Nat}(h:n<=6):(fD n).length<=62:=by
 unfold fD
 rw[df,gv,nK]
 have:2 ^ n<=2 ^ 6:=cg (by decide) h
 have:(2:Nat) ^ 6=64:=rfl
 omega
theorem aDe {n:Nat}(h:n<=6):(yW n).length<=62:=dg (dq _ _) (vV h)
theorem aKp:∀ vs H Q E,aJS K vs H Q E->nG K (aHD K) { nx:=fun _ H'=>Q .non H',rt:=Q } (bD ["many","sets"] vs) H:=by
 intro vs H Q E h
 obtain⟨n,rfl,n3,n6,q⟩:=h
 refine ⟨_,rfl,n,rfl,by omega,n6,fun F0 ys0 H0 s0 _ hF0 r0=>⟨F0,rfl, .inl ⟨⟨_, .of hF0⟩,fun A hA=>?_⟩⟩⟩
 have yl:ys0.length=(fD n).length:=by rw[r0.1,jJ]
 refine cX (K:=K) (a:=F0) (xs:=ys0) (fun i σ' H'=>i<=ys0.length/\Same H0 H'/\(∃ x0,σ'=[x0,some (.int (n:Int))])/\∃ zs,H' A=some (.lst zs)/\Rows K H' zs (nN (((fD n).take i).filter (okS n)))) ⟨ay _,aG hA _,⟨_,rfl⟩,[],aD,Rows.nil⟩ (fun i σ1 H1 _ ⟨_,s1,_⟩ => .of (s1 _ _ hF0)) (fun i x σ1 H1 hx ⟨_,s1,⟨x1,es⟩,zs,hA1,r1⟩=>?_) fun σ1 H1 ⟨_,s1,_,zs,hA1,r1⟩=>?_
 ·subst es
  have hi:i<ys0.length:=(ai.mp hx).1
  obtain⟨s,b,hs,rfl,hb⟩:=xD (r0.same s1) hx
  refine aHt (by omega) hb fun H2 s2=>?_
  have hA2:=s2 _ _ hA1
  have e1:((fD n).take (i+1)).filter (okS n)=((fD n).take i).filter (okS n)++if okS n s=true then [s] else []:=by
   rw[gx,hs,j7]
   congr 1
   show [s].filter (okS n)=_
   by_cases c:okS n s=true
   ·rw[if_pos c,kz c];rfl
   ·rw[if_neg c,la c];rfl
  by_cases cp:okS n s=true
  ·rw[if_pos cp] at e1
   refine dJ cp ⟨_,rfl,zs,hA2,bq (show zs.length<=100 by rw[r1.1,jJ];have:=dq (okS n) ((fD n).take i);rw[df] at this;have:=vV n6;omega) (by decide),hi,eJ hA (s1.trans s2),⟨_,rfl⟩,_,aD,?_⟩
   rw[e1]
   have:nN (((fD n).take i).filter (okS n)++[s])=nN (((fD n).take i).filter (okS n))++[s.map Int.ofNat]:=by unfold nN;rw[cz];rfl
   rw[this]
   exact Rows.put (Rows.snoc (r1.same s2) (by rw[<- iV];exact s2.tup hb)) hA2
  ·rw[if_neg cp,i4] at e1
   refine cD (by simpa using cp) ⟨hi,s1.trans s2,⟨_,rfl⟩,zs,hA2,?_⟩
   rw[e1]
   exact r1.same s2
 ·rw[yl,fq] at r1
  have r1:Rows K H1 zs (nN (yW n)):=r1
  have z6:=aDe n6
  refine ⟨_,rfl,A,rfl, .inl ⟨⟨_, .of hA1⟩,fun B hB=>?_⟩⟩
  refine aDK (K:=K) (F:=A) (c:=1) (p:=fun _=>true) (ts:=[]) hB hA1 r1 (by omega) (fun tb D s b H' _ _ h=>by rw[if_pos rfl] at h;exact h) (fun _ _ _ h=>h) fun σ2 H2 us s2 hB2 r2=>?_
  refine ⟨_,rfl,A,rfl, .inl ⟨⟨_, .of (s2 _ _ hA1)⟩,fun C hC=>?_⟩⟩
  refine aDK (K:=K) (F:=A) (c:=-1) (p:=fun s=>s.length == 1) (ts:=[(bU (tOp (iX K) (tCB (jM K) (aC (aF 0) aO)) (tC (.int 1))))]) hC (s2 _ _ hA1) (r1.same s2) (by omega) (fun tb D s b H' _ hb h=>?_) (fun _ _ _ h=>⟨1,rfl,h⟩) fun σ3 H3 ws s3 hC3 r3=>?_
  ·refine ⟨_,rfl,b,_,rfl, .inr hb, .int (s.length:Int), .int ((1:Nat):Int),ay _,by rw[af];rfl,rfl,_,rfl,?_⟩
   rw[aFG]
   exact h
  ·refine .inl ⟨B,C,us,ws,rfl,rfl,s3 _ _ hB2,hC3,?_,fun F4 hF4=>?_⟩
   ·rw[r2.1,r3.1,af,af]
    have h1:=dq (fun _=>true) (yW n)
    have h2:=dq (fun s:List Nat=>s.length == 1) (yW n)
    exact dg (show _<=200 by omega) (by decide)
   ·have m4:=aG hF4 (.lst (us++ws))
    have sA:=(((s0.trans s1).trans s2).trans s3)
    refine q F4 _ _ (sA.trans m4) (sA.free hF4) aD ?_
    have:gZ n=((yW n).filter fun _=>true).map (fun s=>(s,(1:Int)))++((yW n).filter fun s=>s.length == 1).map fun s=>(s,(-1:Int)):=by
     unfold gZ
     rw[List.filter_eq_self.mpr fun _ _=>rfl]
    rw[this]
    exact ((r2.same s3).app r3).same m4
end
section
variable {K:aa}
def mkR (N:Nat) (f:Nat->Int):List V:=(av N).map fun j=>V.int (f j)
theorem bZ {N:Nat}{f:Nat->Int}:(mkR N f).length=N:=by unfold mkR;rw[af,dy]
theorem nB {N j:Nat}{f:Nat->Int}(h:j<N):(mkR N f)[j]?=some (.int (f j)):=by unfold mkR;rw[cf,xw h];rfl
theorem wD {N j:Nat}{f:Nat->Int}{x:V}(h:(mkR N f)[j]?=some x):j<N/\x = .int (f j):=by
 have hj:j<N:=by have:=(ai.mp h).1;rw[bZ] at this;exact this
 rw[nB hj] at h
 exact ⟨hj,(bf h).symm⟩
theorem fU {N:Nat}{f g:Nat->Int}(h:∀ j,j<N->f j=g j):mkR N f=mkR N g:=by
 unfold mkR
 exact xr fun j hj=>by rw[h j (gr.mp hj)]
structure Mt (H:Hp)(F:Addr)(ls:List Addr)(m N:Nat)(f:Nat->Nat->Int):Prop where
 top:H F=some (.lst (ls.map V.ref))
 len:ls.length=m
 row:∀ (i:Nat) (l:Addr),ls[i]?=some l->H l=some (.lst (mkR N (f i)))
 out:F∉ls
theorem Mt.same {H H':Hp}{F:Addr}{ls:List Addr}{m N:Nat}{f:Nat->Nat->Int}(M:Mt H F ls m N f)(s:Same H H'):Mt H' F ls m N f:=⟨s _ _ M.top,M.len,fun i l h=>s _ _ (M.row i l h),M.out⟩
theorem Mt.congr {H:Hp}{F:Addr}{ls:List Addr}{m N:Nat}{f g:Nat->Nat->Int}(M:Mt H F ls m N f)(h:∀ i j,i<m->j<N->f i j=g i j):Mt H F ls m N g:=⟨M.top,M.len,fun i l e=>by
 have hi:i<m:=by have:=(ai.mp e).1;rw[M.len] at this;exact this
 rw[M.row i l e,fU fun j hj=>h i j hi hj],M.out⟩
theorem Mt.at {H:Hp}{F:Addr}{ls:List Addr}{m N i:Nat}{f:Nat->Nat->Int}(M:Mt H F ls m N f)(hi:i<m):∃ l,ls[i]?=some l/\(ls.map V.ref)[i]?=some (.ref l)/\H l=some (.lst (mkR N (f i))):=by
 have hl:i<ls.length:=by rw[M.len];exact hi
 exact ⟨ls[i],ah hl,by rw[cf,ah hl];rfl,M.row i _ (ah hl)⟩
theorem aFm {H:Hp}{F:Addr}{ls:List Addr}{m N i j t si sj:Nat}{f:Nat->Nat->Int}{σ:St}{Q:VK}(M:Mt H F ls m N f)(ht:σ[t]?=some (some (.ref F)))(hi:σ[si]?=some (some (.int (i:Int))))(hj:σ[sj]?=some (some (.int (j:Int))))(li:i<m)(lj:j<N)(q:Q (.int (f i j)) H):tOp (bH K) (tOp (bH K) (aF t) (aF si)) (aF sj) σ H Q:=by
 obtain⟨l,h1,h2,h3⟩:=M.at li
 exact ⟨_,ht,_,hi,ixL (.of M.top) h2 ⟨_,hj,ixL (.of h3) (nB lj) q⟩⟩
theorem aJx {H:Hp}{F:Addr}{ls:List Addr}{m N i t si:Nat}{f:Nat->Nat->Int}{σ:St}{Q:VK}(M:Mt H F ls m N f)(ht:σ[t]?=some (some (.ref F)))(hi:σ[si]?=some (some (.int (i:Int))))(li:i<m)(N0:0<N)(q:Q (.int (f i (N - 1))) H):tOp (bH K) (tOp (bH K) (aF t) (aF si)) (tUn aAf (tC (.int 1))) σ H Q:=by
 obtain⟨l,h1,h2,h3⟩:=M.at li
 exact ⟨_,ht,_,hi,ixL (.of M.top) h2 ⟨1,rfl,aCx (.of h3) (by rw[bZ];exact N0) (by rw[bZ];exact nB (by omega)) q⟩⟩
def aJd (K:aa):Sp:=fun vs H Q _=>∃ (F:Addr) (ls:List Addr) (m N:Nat) (f:Nat->Nat->Int),vs=[.ref F]/\Mt H F ls (m+1) (N+1) f/\N<=100/\∀ H',Same H H'->((∀ j,j<N->0<=f m j)->Q .non H')/\∀ c,c<N->f m c<0->(∀ j,j<c->0<=f m j)->Q (.int (c:Int)) H'
theorem aKQ:∀ vs H Q E,aJd K vs H Q E->jW K { nx:=fun _ H'=>Q .non H',rt:=Q } (bD ["rows","column","turned"] vs) H:=by
 intro vs H Q E h
 obtain⟨F,ls,m,N,f,rfl,M,hN,q⟩:=h
 obtain⟨l,h1,h2,h3⟩:=M.at (show m<m+1 by omega)
 refine ⟨_,rfl,1,rfl,aCx (.of M.top) (by rw[af,M.len];omega) (by rw[af,M.len];exact h2) ⟨1,rfl,_,rfl, .inl ⟨l,_,rfl, .of h3,fun p hp=>?_⟩⟩⟩
 rw[aFP]
 have ec:(mkR (N+1) (f m)).take ((mkR (N+1) (f m)).length - 1)=mkR N (f m):=by
  rw[bZ]
  unfold mkR
  rw[<- nq,List.take_range,qr (by omega)]
  rfl
 rw[ec]
 have mp:=aG hp (.lst (mkR N (f m)))
 have hp2:(upd H p (.lst (mkR N (f m)))) p=some (.lst (mkR N (f m))):=aD
 generalize upd H p (.lst (mkR N (f m)))=G at *
 refine ⟨p,true,rfl,⟨_, .of hp2⟩,?_⟩
 refine aBL (K:=K) (b:=true) (l:=p) (xs:=mkR N (f m)) (fun i σ' H'=>i<=N/\Same G H'/\(∃ x1 x2,σ'=[some (.ref F),x1,x2])/\∀ j,j<i->0<=f m j) ⟨ay _,Same.refl _,⟨_,_,rfl⟩,fun j hj=>by omega⟩ (fun i σ1 H1 _ ⟨_,s1,_⟩ => .of (s1 _ _ hp2)) (fun i x σ1 H1 t hx ht ⟨_,s1,⟨x1,x2,es⟩,a1⟩=>?_) fun σ1 H1 ⟨_,s1,_,a1⟩=>(q H1 (mp.trans s1)).1 (by rw[bZ] at a1;exact a1)
 subst es
 obtain⟨hi,rfl⟩:=wD hx
 have mt:=aG ht (.tup [V.int (i:Int), .int (f m i)])
 refine ⟨t,_,rfl, .of aD,rfl,_,_,rfl,_,_,rfl,rfl,?_⟩
 refine ⟨_,rfl,_,_,rfl,rfl,_,rfl,pL (fun c=>?_) fun c=>?_⟩
 ·exact ⟨_,rfl,(q _ ((mp.trans s1).trans mt)).2 i hi (of_decide_eq_true c) a1⟩
 ·refine ⟨hi,s1.trans mt,⟨_,_,rfl⟩,fun j hj=>?_⟩
  by_cases e:j=i
  ·subst e
   have:=of_decide_eq_false (fc _ |>.mp c)
   omega
  ·exact a1 j (by omega)
def tgt (x y:Nat->Int) (hd:Nat->Nat) (a b:Nat):Bool:=decide (x a*y b<x b*y a) || (decide (x a*y b=x b*y a) && decide (hd a<hd b))
def hdL (m:Nat) (h:Nat->Nat):List V:=(av m).map fun i=>fI (h i)
theorem uR {m i:Nat}{h:Nat->Nat}(hi:i<m):(hdL m h)[i]?=some (fI (h i)):=by unfold hdL;rw[cf,xw hi];rfl
theorem hV {m:Nat}{h:Nat->Nat}:(hdL m h).length=m:=by unfold hdL;rw[af,dy]
def aJI (K:aa):Sp:=fun vs H Q _=>∃ (F hl:Addr) (ls:List Addr) (m N c a o:Nat) (f:Nat->Nat->Int) (h:Nat->Nat),vs=[.ref F, .ref hl, .int (c:Int), .int (a:Int), .int (o:Int)]/\Mt H F ls (m+1) (N+1) f/\H hl=some (.lst (hdL m h))/\(∀ i j,(f i j).natAbs<2 ^ 400)/\c<=N/\a<m/\o<m/\Q (.bl (tgt (fun i=>f i N) (fun i=>f i c) h a o)) H
theorem big {x:Int}(h:x.natAbs<2 ^ 400):x.natAbs<2 ^ 8000:=aw h (cg (by decide) (by decide))
theorem aKk:∀ vs H Q E,aJI K vs H Q E->pQ K { nx:=fun _ H'=>Q .non H',rt:=Q } (bD ["rows","held","column","at","other","one_room","other_room"] vs) H:=by
 intro vs H Q E h
 obtain⟨F,hl,ls,m,N,c,a,o,f,h,rfl,M,hh,fb,cN,am,om,q⟩:=h
 refine aJx (t:=0) (si:=3) (i:=a) M rfl rfl (by omega) (by omega) ?_
 refine aFm (t:=0) (si:=4) (sj:=2) (i:=o) (j:=c) M rfl rfl rfl (by omega) (by omega) ⟨.inr ⟨big (fb _ _),big (fb _ _)⟩,?_⟩
 refine aJx (t:=0) (si:=4) (i:=o) M rfl rfl (by omega) (by omega) ?_
 refine aFm (t:=0) (si:=3) (sj:=2) (i:=a) (j:=c) M rfl rfl rfl (by omega) (by omega) ⟨.inr ⟨big (fb _ _),big (fb _ _)⟩,?_⟩
 rw[Nat.add_sub_cancel]
 unfold tgt at q
 refine ⟨_,rfl,_,rfl,_,_,rfl,rfl,_,rfl,pL (fun c1=>?_) fun c1=>?_⟩
 ·have:decide (f a N*f o c<f o N*f a c)=true:=c1
  rw[this,yt] at q
  exact q
 ·have:decide (f a N*f o c<f o N*f a c)=false:=fc _ |>.mp c1
  rw[this,qe] at q
  refine ⟨_,rfl,_,rfl, .int _, .int _,ay _,rfl,rfl,_,rfl,?_⟩
  have ee:eqD (.int (f a N*f o c)) (.int (f o N*f a c))=decide (f a N*f o c=f o N*f a c):=by rw[eqD];rfl
  rw[ee]
  by_cases c2:f a N*f o c=f o N*f a c
  ·rw[decide_eq_true c2,fm] at q
   refine dJ (decide_eq_true c2) ⟨_,rfl,_,rfl,ixL (.of hh) (uR am) ⟨_,rfl,_,rfl,ixL (.of hh) (uR om) ⟨_,_,rfl,rfl,?_⟩⟩⟩
   have:decide ((h a:Int)<(h o:Int))=decide (h a<h o):=by
    by_cases z:h a<h o
    ·rw[decide_eq_true z];exact decide_eq_true (by omega)
    ·rw[decide_eq_false z];exact decide_eq_false (by omega)
   rw[this]
   exact q
  ·rw[decide_eq_false c2,gu] at q
   exact cD (decide_eq_false c2) q
def aHW (K:aa):Sp:=fun vs H Q _=>∃ (F hl:Addr) (ls:List Addr) (m N c:Nat) (f:Nat->Nat->Int) (h:Nat->Nat),vs=[.ref F, .ref hl, .int (c:Int)]/\Mt H F ls (m+1) (N+1) f/\H hl=some (.lst (hdL m h))/\(∀ i j,(f i j).natAbs<2 ^ 400)/\c<=N/\m<=100/\(∃ i,i<m/\0<f i c) /\
 ∀ r H',Same H H'->r<m->0<f r c->(∀ i,i<m->0<f i c->Sh.Le (fun i=>f i N) (fun i=>f i c) h r i)->Q (.int (r:Int)) H'
theorem aKO:∀ vs H Q E,aHW K vs H Q E->lL K (aJI K) { nx:=fun _ H'=>Q .non H',rt:=Q } (bD ["rows","held","column","best","at","row"] vs) H:=by
 intro vs H Q E h
 obtain⟨F,hl,ls,m,N,c,f,h,rfl,M,hh,fb,cN,m1,⟨i0,hi0,pi0⟩,q⟩:=h
 refine ⟨_,rfl,1,rfl,_,rfl, .inl ⟨F,_,rfl, .of M.top,fun p hp=>?_⟩⟩
 rw[aFP]
 have ec:(ls.map V.ref).take ((ls.map V.ref).length - 1)=(ls.take m).map V.ref:=by rw[af,M.len,<- nq,Nat.add_sub_cancel]
 rw[ec]
 have mp:=aG hp (.lst ((ls.take m).map V.ref))
 have hp2:(upd H p (.lst ((ls.take m).map V.ref))) p=some (.lst ((ls.take m).map V.ref)):=aD
 have M:=M.same mp
 have hh:=mp _ _ hh
 generalize upd H p (.lst ((ls.take m).map V.ref))=G at *
 have ll:((ls.take m).map V.ref).length=m:=by rw[af,df,M.len];omega
 refine ⟨p,true,rfl,⟨_, .of hp2⟩,?_⟩
 refine aBL (K:=K) (b:=true) (l:=p) (xs:=(ls.take m).map V.ref) (fun i σ' H'=>i<=m/\Same G H'/\∃ x3 x4 x5,σ'=[some (.ref F),some (.ref hl),some (.int (c:Int)),some x3,x4,x5]/\((x3 = .non/\∀ j,j<i->f j c<=0)\/∃ b,x3 = .int ((b:Nat):Int)/\b<i/\0<f b c/\∀ j,j<i->0<f j c->Sh.Le (fun i=>f i N) (fun i=>f i c) h b j))
  ⟨ay _,Same.refl _, .non,none,none,rfl, .inl ⟨rfl,fun j hj=>by omega⟩⟩ (fun i σ1 H1 _ ⟨_,s1,_⟩ => .of (s1 _ _ hp2)) (fun i x σ1 H1 t hx ht ⟨_,s1,x3,x4,x5,es,inv⟩=>?_) fun σ1 H1 ⟨_,s1,x3,x4,x5,es,inv⟩=>?_
 ·subst es
  have hi:i<m:=by have:=(ai.mp hx).1;rw[ll] at this;exact this
  obtain⟨l,g1,g2,g3⟩:=M.at (show i<m+1 by omega)
  have ex:x = .ref l:=by
   rw[cf,kh hi,g1] at hx
   exact (bf hx).symm
  subst ex
  have mt:=aG ht (.tup [V.int (i:Int), .ref l])
  have s2:=s1.trans mt
  refine ⟨t,_,rfl, .of aD,rfl,_,_,rfl,_,_,rfl,rfl,?_⟩
  generalize upd H1 t (.tup [V.int (i:Int), .ref l])=G1 at *
  refine ⟨_,rfl,_,rfl,ixL (.of (s2 _ _ g3)) (nB (show c<N+1 by omega)) ⟨_,_,rfl,rfl,_,rfl,pL (fun c1=>?_) fun c1=>?_⟩⟩
  ·have pos:0<f i c:=of_decide_eq_true c1
   rcases inv with ⟨rfl,no⟩ | ⟨b,rfl,hb,pb,le⟩
   ·refine ⟨_,rfl, .inr ⟨rfl,_,rfl,dJ rfl (dJ rfl ⟨_,rfl,hi,s2,_,_,_,rfl, .inr ⟨i,rfl,by omega,pos,fun j hj pj=>?_⟩⟩)⟩⟩
    by_cases e:j=i
    ·subst e;exact Sh.Le.refl _ _ _ _
    ·have:=no j (by omega);omega
   ·refine ⟨_,rfl, .inr ⟨rfl,_,rfl,cD rfl ⟨_,rfl,_,rfl,_,rfl,_,rfl,_,rfl,F,hl,ls,m,N,c,i,b,f,h,rfl,M.same s2,s2 _ _ hh,fb,cN,hi,by omega,_,rfl,?_⟩⟩⟩
    show if tgt (fun i=>f i N) (fun i=>f i c) h i b=true then _ else _
    cases ct:tgt (fun i=>f i N) (fun i=>f i c) h i b with
    | true=>
     have L:=Sh.Le.of_yes (x:=fun i=>f i N) (y:=fun i=>f i c) (hd:=h) (a:=i) (b:=b) ct
     refine dJ rfl ⟨_,rfl,hi,s2,_,_,_,rfl, .inr ⟨i,rfl,by omega,pos,fun j hj pj=>?_⟩⟩
     by_cases e:j=i
     ·subst e;exact Sh.Le.refl _ _ _ _
     ·exact L.trans pos pb pj (le j (by omega) pj)
    | false=>
     have L:=Sh.Le.of_not (x:=fun i=>f i N) (y:=fun i=>f i c) (hd:=h) (a:=i) (b:=b) ct
     refine cD rfl ⟨hi,s2,_,_,_,rfl, .inr ⟨b,rfl,by omega,pb,fun j hj pj=>?_⟩⟩
     by_cases e:j=i
     ·subst e;exact L
     ·exact le j (by omega) pj
  ·have neg:¬ 0<f i c:=of_decide_eq_false (fc _ |>.mp c1)
   refine cD rfl ⟨hi,s2,_,_,_,rfl,?_⟩
   rcases inv with ⟨rfl,no⟩ | ⟨b,rfl,hb,pb,le⟩
   ·refine .inl ⟨rfl,fun j hj=>?_⟩
    by_cases e:j=i
    ·subst e;omega
    ·exact no j (by omega)
   ·refine .inr ⟨b,rfl,by omega,pb,fun j hj pj=>?_⟩
    by_cases e:j=i
    ·subst e;exact absurd pj neg
    ·exact le j (by omega) pj
 ·subst es
  rw[ll] at inv
  rcases inv with ⟨rfl,no⟩ | ⟨b,rfl,hb,pb,le⟩
  ·have:=no i0 hi0;omega
  ·exact ⟨_,rfl,q b H1 (mp.trans s1) hb pb le⟩
def tnF (f:Nat->Nat->Int) (r c:Nat) (b:Int) (i j:Nat):Int:=if i=r then f i j else (f i j*f r c - f i c*f r j) / b
def aIj (K:aa):Sp:=fun vs H Q _=>∃ (F:Addr) (ls:List Addr) (m N r c:Nat) (b:Int) (f:Nat->Nat->Int),vs=[.ref F, .int (r:Int), .int (c:Int), .int b]/\Mt H F ls m N f/\(∀ i j,(f i j).natAbs<2 ^ 400)/\0<b/\b.natAbs<2 ^ 400/\r<m/\c<N/\m<=100/\N<=200 /\
 ∀ ls' H',Mt H' F ls' m N (tnF f r c b)->SameX F H H'->Q .non H'
theorem aKv:∀ vs H Q E,aIj K vs H Q E->aFX K { nx:=fun _ H'=>Q .non H',rt:=Q } (bD ["rows","at","column","bottom","pivot","other","factor"] vs) H:=by
 intro vs H Q E h
 obtain⟨F,ls,m,N,r,c,b,f,rfl,M,fb,b0,bb,rm,cN,m1,N2,q⟩:=h
 obtain⟨lp,p1,p2,p3⟩:=M.at rm
 have lF:lp≠F:=fun e=>M.out (e ▸ bt p1)
 refine ⟨_,rfl,_,rfl,ixL (.of M.top) p2 ?_⟩
 refine ⟨_,rfl,F,_,rfl, .inl (.of M.top),((ls.map V.ref).length:Int),rfl,by omega,by rw[af,M.len];omega,?_⟩
 rw[bz,af,M.len]
 refine dP (lo:=0) (n:=m) (fun i σ' H'=>i<=m/\SameX F H H'/\(∃ x5 x6,σ'=[some (.ref F),some (.int (r:Int)),some (.int (c:Int)),some (.int b),some (.ref lp),x5,x6])/\∃ ls',Mt H' F ls' m N (fun a j=>if a<i then tnF f r c b a j else f a j)) ⟨ay _,SameX.refl _ _,⟨_,_,rfl⟩,ls,M.congr fun a j _ _=>by rw[if_neg (by omega)]⟩ (fun i σ1 H1 hi ⟨_,sx1,⟨x5,x6,es⟩,ls1,M1⟩=>?_) fun σ1 H1 ⟨_,sx1,_,ls1,M1⟩=>q ls1 H1 (M1.congr fun a j ha _=>by rw[if_pos ha]) sx1
 subst es
 rw[jn]
 have hp3:=sx1 _ _ lF p3
 refine ⟨_,rfl,_,rfl, .int (i:Int), .int (r:Int),ay _,rfl,rfl,_,rfl,?_⟩
 rw[aFG]
 by_cases ir:i=r
 ·subst ir
  refine cD (by rw[decide_eq_true rfl];rfl) ⟨hi,sx1,⟨_,_,rfl⟩,ls1,M1.congr fun a j _ _=>?_⟩
  show (if a<i then tnF f i c b a j else f a j)=if a<i+1 then tnF f i c b a j else f a j
  by_cases e:a=i
  ·subst e;rw[if_neg (by omega),if_pos (by omega)];unfold tnF;rw[if_pos rfl]
  ·by_cases e2:a<i
   ·rw[if_pos e2,if_pos (by omega)]
   ·rw[if_neg e2,if_neg (by omega)]
 ·refine dJ (by rw[decide_eq_false ir];rfl) ?_
  obtain⟨l1,g1,g2,g3⟩:=M1.at hi
  have g3:H1 l1=some (.lst (mkR N (f i))):=by rw[g3];congr 2;exact fU fun j _=>if_neg (by omega)
  refine aFm (t:=0) (si:=5) (sj:=2) (i:=i) (j:=c) M1 rfl rfl rfl hi cN ?_
  rw[if_neg (by omega)]
  refine ⟨_,rfl,_,rfl,ixL (.of M1.top) g2 ⟨_,rfl,l1,lp,true,true,rfl,⟨_, .of g3⟩,⟨_, .of hp3⟩,fun A hA=>?_⟩⟩
  have hv:∀ H',SameX A (upd H1 A (.lst [])) H'->Same H1 H':=fun H' sx=>cT hA sx
  refine cA [0,1] (mkR N (tnF f r c b i)) hA (by rw[bZ];omega) (Emits.cast (aDo (K:=K) (b1:=true) (b2:=true) (l1:=l1) (l2:=lp) (xs:=mkR N (f i)) (ys:=mkR N (f r)) (L:=fun j=>[V.int (tnF f r c b i j)]) (by rw[bZ,bZ]) (fun H' sx=>⟨.of (hv H' sx _ _ g3), .of (hv H' sx _ _ hp3)⟩) fun j x y σ2 H2 t hx hy ht l2 ag2 sx2=>?_) (by rw[bZ,qA];rfl)) fun σ2 H2 s2 hA2=>?_
  ·obtain⟨hj,rfl⟩:=wD hx
   obtain⟨_,rfl⟩:=wD hy
   have mt:=aG ht (.tup [V.int (f i j), .int (f r j)])
   have l6:σ2.length=6:=l2
   refine ⟨(σ2.set 0 (some (.int (f i j)))).set 1 (some (.int (f r j))),by rw[cv,cv];exact l2,(ag2.trans (Agree.set (by decide) _)).trans (Agree.set (by decide) _),fun Nn hN=>⟨t,_,rfl, .of aD,rfl,_,_,rfl,_,_,rfl,rfl,hN⟩,dA fun R hR=>?_⟩
   have t0:((σ2.set 0 (some (.int (f i j)))).set 1 (some (.int (f r j))))[0]?=some (some (.int (f i j))):=by rw[dn (by decide)];exact iJ (by omega)
   have t1:((σ2.set 0 (some (.int (f i j)))).set 1 (some (.int (f r j))))[1]?=some (some (.int (f r j))):=iJ (by rw[cv];omega)
   have tk:∀ k,2<=k->((σ2.set 0 (some (.int (f i j)))).set 1 (some (.int (f r j))))[k]?=σ2[k]?:=fun k hk=>by rw[dn (by omega),dn (by omega)]
   have t2:=(tk 2 (by decide)).trans ((ag2 2 (by decide)).trans (show _=some (some (V.ref lp)) from rfl))
   have t3:=(tk 3 (by decide)).trans ((ag2 3 (by decide)).trans (show _=some (some (V.int (c:Int))) from rfl))
   have t4:=(tk 4 (by decide)).trans ((ag2 4 (by decide)).trans (show _=some (some (V.int (f i c))) from rfl))
   have t5:=(tk 5 (by decide)).trans ((ag2 5 (by decide)).trans (show _=some (some (V.int b)) from rfl))
   have hp4:=mt _ _ (hv _ sx2 _ _ hp3)
   refine ⟨_,t0,_,t2,_,t3,ixL (.of hp4) (nB cN) ⟨.inr ⟨big (fb _ _),big (fb _ _)⟩,_,t4,_,t1, .inr ⟨big (fb _ _),big (fb _ _)⟩,_,_,rfl,rfl,_,t5,_,_,rfl,rfl,⟨b0,big bb⟩,?_⟩⟩
   have:=hR _ (Same.refl _)
   unfold tnF at this
   rw[if_neg ir] at this
   exact this
  ·have hT:=s2 _ _ M1.top
   have nA:A≠F:=fun e=>by rw[e,M1.top] at hA;cases hA
   refine ⟨_,rfl,_,rfl,F,_,(i:Int),i,rfl,rfl,hT,?_,hi,(sx1.trans s2.x).trans (SameX.put _),⟨_,_,rfl⟩,ls1.set i A,?_⟩
   ·rw[af,M1.len]
    unfold ixN
    rw[if_pos (by omega),if_pos (by omega),bz]
   ·have nF:∀ k l,(ls1.set i A)[k]?=some l->l≠F:=fun k l e z=>by
     rw[mr] at e
     split at e
     ·split at e
      ·exact nA ((bf e).trans z)
      ·cases e
     ·exact M1.out (z ▸ bt e)
    refine ⟨by rw[aD,yu],by rw[cv];exact M1.len,fun k l e=>?_,fun z=>?_⟩
    ·rw[bA (nF k l e)]
     rw[mr] at e
     split at e
     ·rename_i hk
      subst hk
      split at e
      ·cases e
       rw[hA2]
       congr 2
       exact fU fun j _=>(if_pos (by omega)).symm
      ·cases e
     ·rename_i hk
      rw[s2 _ _ (M1.row k l e)]
      congr 2
      refine fU fun j _=>?_
      show (if k<i then tnF f r c b k j else f k j)=if k<i+1 then tnF f r c b k j else f k j
      by_cases e2:k<i
      ·rw[if_pos e2,if_pos (by omega)]
      ·rw[if_neg e2,if_neg (by omega)]
    ·obtain⟨k,hk⟩:=jc.mp z
     exact nF k F hk rfl
end
def mN (n:Nat):Nat:=(dS n).length
def kN (n:Nat):Nat:=(gZ n).length
def stA (n j:Nat):List Nat × Int:=(gZ n).getD j ([],0)
def prA (n p:Nat):Nat × Nat:=(dS n).getD p (0,0)
def coT (n j p:Nat):Int:=if prt (stA n j).1 (prA n p).1 (prA n p).2=true then (stA n j).2 else 0
def obT (n j:Nat):Int:=-2*(stA n j).2
def wyT (T:List (List Int)) (n p:Nat):Int:=if p<mN n then at2 T (prA n p).1 (prA n p).2 else 0
def AT (T:List (List Int)) (n:Nat):Nat->Sh.Vec:=Sh.A0 (mN n) (kN n) (coT n) (obT n) (wyT T n)
theorem n36 {P:Nat->Prop}(h3:P 3)(h4:P 4)(h5:P 5)(h6:P 6):∀ n,3<=n->n<=6->P n:=fun n a b=>by
 match n,a,b with
 | 3,_,_=>exact h3
 | 4,_,_=>exact h4
 | 5,_,_=>exact h5
 | 6,_,_=>exact h6
def lpB (n:Nat):Bool:=decide (dS n).Nodup && decide (mN n<=15) && decide (1<=mN n) && (dS n).all (fun e=>decide (e.1<e.2) && decide (e.2<n)) && decide (kN n<=40) && (gZ n).all (fun e=>decide (e.2=1) || decide (e.2 = -1))
theorem aLE:∀ n,3<=n->n<=6->lpB n=true:=n36 (by decide +kernel) (by decide +kernel) (by decide +kernel) (by decide +kernel)
theorem rD {n:Nat}(h3:3<=n)(h6:n<=6):(dS n).Nodup/\mN n<=15/\1<=mN n/\(∀ e∈dS n,e.1<e.2/\e.2<n)/\kN n<=40/\∀ e∈gZ n,e.2=1\/e.2 = -1:=by
 have h:=aLE n h3 h6
 unfold lpB at h
 simp only [du,decide_eq_true_eq,e9,Bool.or_eq_true] at h
 obtain⟨⟨⟨⟨⟨h1,h2⟩,h2'⟩,h3⟩,h4⟩,h5⟩:=h
 exact ⟨h1,h2,h2',h3,h4,h5⟩
theorem wB {a b:Nat}{f:Nat->Int}:mkR a f++mkR b (fun j=>f (a+j))=mkR (a+b) f:=by
 unfold mkR
 rw[List.range_add,cz,gz]
 rfl
theorem aDy {f:Nat->Int}:mkR 1 f=[V.int (f 0)]:=rfl
theorem aIW {T:List (List Int)}{n p:Nat}(hp:p<mN n):mkR (kN n) (fun j=>coT n j p)++mkR (mN n) (fun q=>if q=p then 1 else 0)++[V.int (at2 T (prA n p).1 (prA n p).2)]=mkR (kN n+mN n+1) (fun j=>AT T n j p):=by
 rw[<- wB (a:=kN n+mN n) (b:=1),<- wB (a:=kN n) (b:=mN n),aDy]
 congr 1
 ·congr 1
  ·exact fU fun j hj=>(Sh.A0_step hj hp).symm
  ·refine fU fun q hq=>?_
   show _=Sh.A0 (mN n) (kN n) (coT n) (obT n) (wyT T n) (kN n+q) p
   rw[Sh.A0_slack hq]
   show _=if p=q then (1:Int) else 0
   by_cases c:q=p
   ·rw[if_pos c,if_pos c.symm]
   ·rw[if_neg c,if_neg (ig c)]
 ·congr 2
  show _=Sh.A0 (mN n) (kN n) (coT n) (obT n) (wyT T n) (kN n+mN n+0) p
  rw[Nat.add_zero,Sh.A0_wy hp]
  unfold wyT
  rw[if_pos hp]
theorem aKI {T:List (List Int)}{n:Nat}:mkR (kN n) (fun j=>obT n j)++mkR (mN n) (fun _=>0)++[V.int 0]=mkR (kN n+mN n+1) (fun j=>AT T n j (mN n)):=by
 rw[<- wB (a:=kN n+mN n) (b:=1),<- wB (a:=kN n) (b:=mN n),aDy]
 congr 1
 ·congr 1
  ·exact fU fun j hj=>(Sh.A0_ob hj).symm
  ·refine fU fun q hq=>?_
   show _=Sh.A0 (mN n) (kN n) (coT n) (obT n) (wyT T n) (kN n+q) (mN n)
   rw[Sh.A0_slack hq]
   exact (if_neg (by omega)).symm
 ·congr 2
  exact (Sh.A0_w0).symm
theorem fT {α:Type}{l:List α}{i:Nat}{x d:α}(h:l[i]?=some x):l.getD i d=x:=by rw[ao,h];rfl
section
variable {K:aa}
theorem Mt.more {H H':Hp}{F F' l:Addr}{ls:List Addr}{m N:Nat}{f:Nat->Nat->Int}(M:Mt H F ls m N f)(s:∀ b o,b∈ls->H b=some o->H' b=some o)(hF':H' F'=some (.lst (ls.map V.ref++[.ref l])))(hl:H' l=some (.lst (mkR N (f m))))(out:F'∉ls)(ol:F'≠l):Mt H' F' (ls++[l]) (m+1) N f:=by
 refine ⟨by rw[cz];exact hF',by rw[az,M.len];rfl,fun i a e=>?_,fun z=>?_⟩
 ·by_cases hi:i<ls.length
  ·rw[dj hi] at e
   exact s _ _ (bt e) (M.row i a e)
  ·rw[da (by omega)] at e
   have:i - ls.length=0:=by
    rcases hk:i - ls.length with _ | k
    ·rfl
    ·rw[hk] at e;cases e
   rw[this] at e
   obtain rfl:l=a:=bf e
   rw[hl,show i=m by have:=M.len;omega]
 ·rcases dv.mp z with z | z
  ·exact out z
  ·exact ol (cy.mp z)
def aJR (K:aa):Sp:=fun vs H Q _=>∃ (v:V) (P S:Addr) (ps ss:List V) (T:List (List Int)) (n:Nat),vs=[v, .ref P, .ref S]/\Sh K H (pY T) v/\Quad T n/\3<=n/\n<=6/\H P=some (.lst ps)/\Rows K H ps (prN (dS n))/\H S=some (.lst ss)/\RowsS K H ss (gZ n) /\
 ∀ F ls H',Same H H'->H F=none->Mt H' F ls (mN n+1) (kN n+mN n+1) (fun i j=>AT T n j i)->Q (.ref F) H'
theorem aKa:∀ vs H Q E,aJR K vs H Q E->oY K (aHE K) { nx:=fun _ H'=>Q .non H',rt:=Q } (bD ["table","pairs","steps","rows","i","j","taken"] vs) H:=by
 intro vs H Q E h
 obtain⟨v,P,S,ps,ss,T,n,rfl,hT,qT,n3,n6,hP,rP,hS,rS,q⟩:=h
 obtain⟨nd,m15,m1,pij,k40,sg⟩:=rD n3 n6
 have pl:ps.length=mN n:=by rw[rP.1,lP];rfl
 have sl:ss.length=kN n:=rS.1
 refine ⟨show 0<=ba by decide,fun F hF=>?_⟩
 have mF:=aG hF (.lst [])
 have hF1:(upd H F (.lst [])) F=some (.lst []):=aD
 generalize upd H F (.lst [])=G at *
 refine ⟨_,rfl,P,rfl, .inl ⟨⟨_, .of (mF _ _ hP)⟩,?_⟩⟩
 refine cX (K:=K) (a:=P) (xs:=ps) (fun i σ' H'=>i<=mN n/\Same H H'/\(∃ x4 x5 x6,σ'=[some v,some (.ref P),some (.ref S),some (.ref F),x4,x5,x6])/\∃ ls,Mt H' F ls i (kN n+mN n+1) (fun i j=>AT T n j i)) ⟨ay _,mF,⟨_,_,_,rfl⟩,[],hF1,rfl,(fun i l e=>by cases e),(fun z=>by cases z)⟩ (fun i σ1 H1 _ ⟨_,s1,_⟩ => .of (s1 _ _ hP)) (fun i x σ1 H1 hx ⟨_,s1,⟨x4,x5,x6,es⟩,ls,M⟩=>?_) fun σ1 H1 ⟨_,s1,⟨x4,x5,x6,es⟩,ls,M⟩=>?_
 ·subst es
  have hi:i<mN n:=by have:=(ai.mp hx).1;omega
  obtain⟨e,b,he,rfl,hb⟩:=yT (rP.same s1) hx
  obtain⟨g1,g2⟩:=pij e (bt he)
  have ep:prA n i=e:=fT he
  refine ⟨b,_,rfl,hb,rfl,fI e.1,[fI e.2],rfl,fI e.2,[],rfl,rfl,?_⟩
  refine ⟨_,rfl,S,rfl, .inl ⟨⟨_, .of (s1 _ _ hS)⟩,fun A hA=>?_⟩⟩
  have hv:∀ H',SameX A (upd H1 A (.lst [])) H'->Same H1 H':=fun H' sx=>cT hA sx
  refine cA [0,1] (mkR (kN n) (fun j=>coT n j i)) hA (by rw[bZ];omega) (Emits.cast (oK (K:=K) (a:=S) (xs:=ss) (L:=fun j=>[V.int (coT n j i)]) (fun H' sx => .of (hv H' sx _ _ (s1 _ _ hS))) fun j y σ2 H2 hy l2 ag2 sx2=>?_) (by rw[sl,qA];rfl)) fun σ2 H2 s2 hA2=>?_
  ·obtain⟨st,b2,q2,hst,rfl,hb2,hq2⟩:=aBQ (rS.same (s1.trans (hv _ sx2))) hy
   have est:stA n j=st:=fT hst
   have l4:σ2.length=4:=l2
   refine ⟨(σ2.set 0 (some (.ref q2))).set 1 (some (.int st.2)),by rw[cv,cv];exact l2,(ag2.trans (Agree.set (by decide) _)).trans (Agree.set (by decide) _),fun Nn hN=>⟨b2,_,rfl,hb2,rfl,_,_,rfl,_,_,rfl,rfl,hN⟩,dA fun R hR=>?_⟩
   have t0:((σ2.set 0 (some (.ref q2))).set 1 (some (.int st.2)))[0]?=some (some (.ref q2)):=by rw[dn (by decide)];exact iJ (by omega)
   have t1:((σ2.set 0 (some (.ref q2))).set 1 (some (.int st.2)))[1]?=some (some (.int st.2)):=iJ (by rw[cv];omega)
   have tk:∀ k,2<=k->((σ2.set 0 (some (.ref q2))).set 1 (some (.int st.2)))[k]?=σ2[k]?:=fun k hk=>by rw[dn (by omega),dn (by omega)]
   have t2:=(tk 2 (by decide)).trans ((ag2 2 (by decide)).trans (show _=some (some (fI e.1)) from rfl))
   have t3:=(tk 3 (by decide)).trans ((ag2 3 (by decide)).trans (show _=some (some (fI e.2)) from rfl))
   refine ⟨_,t0,_,t2,_,t3,q2,st.1,e.1,e.2,rfl,hq2,_,rfl,?_⟩
   have r:=hR _ (Same.refl _)
   unfold coT at r
   rw[est,ep] at r
   refine pL (fun c=>⟨_,t1,?_⟩) fun c=>?_
   ·rw[if_pos c] at r;exact r
   ·rw[if_neg c] at r;exact r
  ·have hF2:=s2 _ _ M.top
   have s12:=s1.trans s2
   refine ⟨_,rfl, .inl ⟨rfl,_, .of hF2⟩,_,rfl,_,rfl,P,rfl, .inl ⟨⟨_, .of (s12 _ _ hP)⟩,fun B hB=>?_⟩⟩
   have hv2:∀ H',SameX B (upd H2 B (.lst [])) H'->Same H2 H':=fun H' sx=>cT hB sx
   refine cA [0] (mkR (mN n) (fun q=>if q=i then 1 else 0)) hB (by rw[bZ];omega) (Emits.cast (gF (K:=K) (a:=P) (xs:=ps) (j:=0) (L:=fun j=>[V.int (if j=i then 1 else 0)]) (by decide) (by show 0<3;decide) (fun H' sx => .of (hv2 H' sx _ _ (s12 _ _ hP))) fun j y σ3 H3 hy l3 ag3 t0 sx3 _=>?_) (by rw[pl,qA];rfl)) fun σ3 H3 s3 hB3=>?_
   ·obtain⟨e',b',he',rfl,hb'⟩:=yT (rP.same (s12.trans (hv2 _ sx3))) hy
    have t1:σ3[1]?=some (some (fI e.1)):=(ag3 1 (by decide)).trans rfl
    have t2:σ3[2]?=some (some (fI e.2)):=(ag3 2 (by decide)).trans rfl
    refine dA fun R hR=>⟨_,t0,_,t1,_,t2,show 2<=ba by decide,fun t ht=>?_⟩
    have mt:=aG ht (.tup [fI e.1,fI e.2])
    refine ⟨.tup ([(e'.1:Int),(e'.2:Int)].map Dt.int), .tup ([(e.1:Int),(e.2:Int)].map Dt.int),gT _,⟨b',_,rfl,mt.tup hb',ShL.ints [(e'.1:Int),(e'.2:Int)]⟩,⟨t,_,rfl, .of aD,ShL.ints [(e.1:Int),(e.2:Int)]⟩,_,rfl,?_⟩
    rw[sX]
    have r:=hR _ mt
    have iff:([(e'.1:Int),(e'.2:Int)]=[(e.1:Int),(e.2:Int)])↔j=i:=by
     constructor
     ·intro z
      have z1:(e'.1:Int)=e.1:=(yf z).1
      have z2:(e'.2:Int)=e.2:=(yf (yf z).2).1
      have ee:e'=e:=by
       obtain⟨a1,a2⟩:=e'
       obtain⟨b1,b2⟩:=e
       have z1:(a1:Int)=b1:=z1
       have z2:(a2:Int)=b2:=z2
       rw[show a1=b1 by omega,show a2=b2 by omega]
      obtain⟨h1,h2⟩:=ai.mp he'
      obtain⟨h3,h4⟩:=ai.mp he
      exact (m8 nd).mp (h2.trans (ee.trans h4.symm))
     ·intro z
      subst z
      rw[he] at he'
      rw[bf he']
    refine pL (fun c=>?_) fun c=>?_
    ·rw[if_pos (iff.mp (of_decide_eq_true c))] at r;exact r
    ·rw[if_neg fun z=>c (decide_eq_true (iff.mpr z))] at r;exact r
   ·have hA3:=s3 _ _ hA2
    refine .inl ⟨A,B,_,_,rfl,rfl,hA3,hB3,?_,fun C hC=>?_⟩
    ·rw[bZ,bZ];exact dg (show _<=100 by omega) (by decide)
    have mC:=aG hC (.lst (mkR (kN n) (fun j=>coT n j i)++mkR (mN n) (fun q=>if q=i then 1 else 0)))
    have s123:=(s12.trans s3).trans mC
    refine sP (t:=0) (si:=4) (sj:=5) rfl rfl rfl (hT.same s123) qT (by omega) g2 ⟨show 1<=ba by decide,fun D hD=>?_⟩
    have mD:=aG hD (.lst [V.int (at2 T e.1 e.2)])
    have hC2:=mD _ _ (show (upd H3 C (.lst (mkR (kN n) (fun j=>coT n j i)++mkR (mN n) (fun q=>if q=i then 1 else 0)))) C=_ from aD)
    refine .inl ⟨C,D,_,_,rfl,rfl,hC2,aD,?_,fun R hR=>?_⟩
    ·rw[az,bZ,bZ];exact dg (show _<=100 by simp;omega) (by decide)
    have eR:=aIW (T:=T) hi
    rw[ep] at eR
    rw[eR]
    have mR:=aG hR (.lst (mkR (kN n+mN n+1) (fun j=>AT T n j i)))
    have sAll:=((((s2.trans s3).trans mC).trans mD).trans mR)
    have hFn:=sAll _ _ M.top
    have nR:R≠F:=fun z=>by
     have h2:=(((s2.trans s3).trans mC).trans mD) _ _ M.top
     rw[<- z,hR] at h2
     cases h2
    refine ⟨F,_,_,rfl,rfl,hFn,bq (show _<=100 by rw[af,M.len];omega) (by decide),hi,eJ hF (s1.trans sAll),⟨_,_,_,rfl⟩,ls++[R],M.more (fun b' o hb' e'=>?_) aD ?_ M.out (ig nR)⟩
    ·rw[bA (show b'≠F from fun z=>M.out (z ▸ hb'))]
     exact sAll _ _ e'
    ·rw[bA nR]
     exact aD
 ·subst es
  rw[pl] at M
  refine ⟨_,rfl,_,rfl,S,rfl, .inl ⟨⟨_, .of (s1 _ _ hS)⟩,fun A hA=>?_⟩⟩
  have hv:∀ H',SameX A (upd H1 A (.lst [])) H'->Same H1 H':=fun H' sx=>cT hA sx
  refine cA [0,1] (mkR (kN n) (fun j=>obT n j)) hA (by rw[bZ];omega) (Emits.cast (oK (K:=K) (a:=S) (xs:=ss) (L:=fun j=>[V.int (obT n j)]) (fun H' sx => .of (hv H' sx _ _ (s1 _ _ hS))) fun j y σ2 H2 hy l2 ag2 sx2=>?_) (by rw[sl,qA];rfl)) fun σ2 H2 s2 hA2=>?_
  ·obtain⟨st,b2,q2,hst,rfl,hb2,hq2⟩:=aBQ (rS.same (s1.trans (hv _ sx2))) hy
   have est:stA n j=st:=fT hst
   have l4:σ2.length=2:=l2
   refine ⟨(σ2.set 0 (some (.ref q2))).set 1 (some (.int st.2)),by rw[cv,cv];exact l2,(ag2.trans (Agree.set (by decide) _)).trans (Agree.set (by decide) _),fun Nn hN=>⟨b2,_,rfl,hb2,rfl,_,_,rfl,_,_,rfl,rfl,hN⟩,dA fun R hR=>?_⟩
   have t1:((σ2.set 0 (some (.ref q2))).set 1 (some (.int st.2)))[1]?=some (some (.int st.2)):=iJ (by rw[cv];omega)
   refine ⟨2,rfl,_,t1, .inl (.inl ⟨by decide,by decide⟩),?_⟩
   have r:=hR _ (Same.refl _)
   unfold obT at r
   rw[est] at r
   exact r
  ·have s12:=s1.trans s2
   refine ⟨_,rfl,P,rfl, .inl ⟨⟨_, .of (s12 _ _ hP)⟩,fun B hB=>?_⟩⟩
   have hv2:∀ H',SameX B (upd H2 B (.lst [])) H'->Same H2 H':=fun H' sx=>cT hB sx
   refine cA [0] (mkR (mN n) (fun _=>0)) hB (by rw[bZ];omega) (Emits.cast (gF (K:=K) (a:=P) (xs:=ps) (j:=0) (L:=fun j=>[V.int 0]) (by decide) (by show 0<1;decide) (fun H' sx => .of (hv2 H' sx _ _ (s12 _ _ hP))) fun j y σ3 H3 hy l3 ag3 t0 sx3 _=>dA fun R hR=>hR _ (Same.refl _)) (by rw[pl,qA];rfl)) fun σ3 H3 s3 hB3=>?_
   have hA3:=s3 _ _ hA2
   refine .inl ⟨A,B,_,_,rfl,rfl,hA3,hB3,?_,fun C hC=>?_⟩
   ·rw[bZ,bZ];exact dg (show _<=100 by omega) (by decide)
   have mC:=aG hC (.lst (mkR (kN n) (fun j=>obT n j)++mkR (mN n) (fun _=>0)))
   refine ⟨show 1<=ba by decide,fun D hD=>?_⟩
   have mD:=aG hD (.lst [V.int 0])
   have hC2:=mD _ _ (show (upd H3 C (.lst (mkR (kN n) (fun j=>obT n j)++mkR (mN n) (fun _=>0)))) C=_ from aD)
   refine .inl ⟨C,D,_,_,rfl,rfl,hC2,aD,?_,fun R hR=>?_⟩
   ·rw[az,bZ,bZ];exact dg (show _<=100 by simp;omega) (by decide)
   rw[aKI (T:=T)]
   have mR:=aG hR (.lst (mkR (kN n+mN n+1) (fun j=>AT T n j (mN n))))
   refine ⟨show 1<=ba by decide,fun L hL=>?_⟩
   have mL:=aG hL (.lst [V.ref R])
   have sAll:=(((((s2.trans s3).trans mC).trans mD).trans mR).trans mL)
   refine .inl ⟨F,L,_,_,rfl,rfl,sAll _ _ M.top,aD,?_,fun F4 hF4=>?_⟩
   ·rw[af,M.len];exact dg (show _<=100 by simp;omega) (by decide)
   have m4:=aG hF4 (.lst (ls.map V.ref++[V.ref R]))
   have hR2:=mL _ _ (show (upd (upd (upd H3 C (.lst (mkR (kN n) (fun j=>obT n j)++mkR (mN n) (fun _=>0)))) D (.lst [V.int 0])) R (.lst (mkR (kN n+mN n+1) (fun j=>AT T n j (mN n))))) R=_ from aD)
   refine q F4 (ls++[R]) _ ((s1.trans sAll).trans m4) ((s1.trans sAll).free hF4) (M.more (fun b' o _ e'=>m4 _ _ (sAll _ _ e')) aD (m4 _ _ hR2) (fun z=>?_) fun z=>?_)
   ·obtain⟨k,hk⟩:=jc.mp z
    have:=sAll _ _ (M.row k _ hk)
    rw[hF4] at this
    cases this
   ·rw[z,hR2] at hF4
    cases hF4
end
abbrev RT (T:List (List Int)) (n:Nat):(Nat->Nat)->Nat->Nat->Int:=Sh.R (AT T n) (mN n)
abbrev dT (T:List (List Int)) (n:Nat):(Nat->Nat)->Int:=Sh.dd (AT T n) (mN n)
abbrev NN (n:Nat):Nat:=kN n+mN n
abbrev OkT (T:List (List Int)) (n:Nat):(Nat->Nat)->Prop:=Sh.Ok (AT T n) (mN n) (NN n)
def xR (n p:Nat):Int:=if (prA n p).2=(prA n p).1+1\/((prA n p).1=0/\(prA n p).2=n - 1) then 1 else 0
def unB (n:Nat):Bool:=(av (kN n)).all fun j=>decide (0<=obT n j+Sh.sumN (mN n) fun p=>xR n p*coT n j p)
theorem aLP:∀ n,3<=n->n<=6->unB n=true:=n36 (by decide +kernel) (by decide +kernel) (by decide +kernel) (by decide +kernel)
theorem aEz {n j:Nat}(n3:3<=n)(n6:n<=6):-1<=(stA n j).2/\(stA n j).2<=1:=by
 unfold stA
 rw[ao]
 cases h:(gZ n)[j]? with
 | none=>exact ⟨by decide,by decide⟩
 | some e=>
  show -1<=e.2/\e.2<=1
  rcases (rD n3 n6).2.2.2.2.2 e (bt h) with z | z <;> omega
theorem aIZ {n:Nat}(n3:3<=n)(n6:n<=6)(j c:Nat):-2<=coT n j c/\coT n j c<=2:=by
 have:=aEz (j:=j) n3 n6
 unfold coT
 split <;> omega
theorem aJz {n:Nat}(n3:3<=n)(n6:n<=6)(j:Nat):-2<=obT n j/\obT n j<=2:=by
 have:=aEz (j:=j) n3 n6
 unfold obT
 omega
theorem aKs {n p:Nat}(n3:3<=n)(n6:n<=6)(hp:p<mN n):(prA n p).1<(prA n p).2/\(prA n p).2<n:=by
 have h:(dS n)[p]?=some ((dS n)[p]'hp):=ah hp
 have:prA n p=(dS n)[p]'hp:=fT h
 rw[this]
 exact (rD n3 n6).2.2.2.1 _ (jw hp)
theorem aGN {T:List (List Int)}{n:Nat}(n3:3<=n)(n6:n<=6)(b:Bs T n)(p:Nat):0<=wyT T n p/\wyT T n p<=1000000:=by
 unfold wyT
 split
 ·rename_i h
  obtain⟨h1,h2⟩:=aKs n3 n6 h
  exact b _ _ (by omega) h2
 ·exact ⟨by decide,by decide⟩
theorem aFS {T:List (List Int)}{n:Nat}(n3:3<=n)(n6:n<=6)(b:Bs T n)(h:Nat->Nat)(i j:Nat):(RT T n h i j).natAbs<2 ^ 400:=Sh.R_bound (rD n3 n6).2.1 (aIZ n3 n6) (aJz n3 n6) (aGN n3 n6 b)
theorem yL {T:List (List Int)}{n:Nat}(n3:3<=n)(n6:n<=6)(b:Bs T n)(h:Nat->Nat):(dT T n h).natAbs<2 ^ 400:=Sh.dd_bound (rD n3 n6).2.1 (aIZ n3 n6) (aJz n3 n6) (aGN n3 n6 b)
theorem aLM {T:List (List Int)}{n:Nat}(n3:3<=n)(n6:n<=6)(b:Bs T n):OkT T n (Sh.h0 (kN n)):=Sh.ok0 fun p _=>(aGN n3 n6 b p).1
theorem unT {T:List (List Int)}{n c:Nat}{h:Nat->Nat}(n3:3<=n)(n6:n<=6)(ok:OkT T n h)(hc:c<NN n)(neg:RT T n h (mN n) c<0):∃ i,i<mN n/\0<RT T n h i c:=by
 refine Sh.unb (x:=xR n) ok (fun p _=>by unfold xR;split <;> decide) (fun j hj=>?_) hc neg
 have:=e9.mp (aLP n n3 n6) j (gr.mpr hj)
 exact of_decide_eq_true this
section
variable {K:aa}
theorem aHk {m r c:Nat}{h:Nat->Nat}(hr:r<m):(hdL m h).set r (fI c)=hdL m (Sh.put h r c):=by
 apply uj
 intro i
 rw[mr]
 by_cases hi:i<m
 ·by_cases e:r=i
  ·rw[if_pos e,if_pos (by rw[hV];omega),uR hi]
   subst e
   unfold Sh.put
   rw[if_pos rfl]
  ·rw[if_neg e,uR hi,uR hi]
   unfold Sh.put
   rw[if_neg (ig e)]
 ·have n1:(hdL m (Sh.put h r c))[i]?=none:=pg (by rw[hV];omega)
  rw[n1,if_neg (by omega)]
  exact pg (by rw[hV];omega)
theorem Mt.nohl {H:Hp}{F hl:Addr}{ls:List Addr}{m k:Nat}{f:Nat->Nat->Int}{h:Nat->Nat}(M:Mt H F ls (m+1) (k+m+1) f)(hh:H hl=some (.lst (hdL m h))):hl≠F/\hl∉ls:=by
 refine ⟨fun e=>?_,fun z=>?_⟩
 ·rw[e,M.top] at hh
  have:=congrArg zb (HO.lst.inj (bf hh))
  rw[af,M.len,hV] at this
  omega
 ·obtain⟨i,hi⟩:=jc.mp z
  rw[M.row i hl hi] at hh
  have:=congrArg zb (HO.lst.inj (bf hh))
  rw[bZ,hV] at this
  omega
def aJE (K:aa):Sp:=fun vs H Q _=>∃ (F hl:Addr) (ls:List Addr) (T:List (List Int)) (n:Nat),vs=[.ref F, .ref hl]/\3<=n/\n<=6/\Bs T n/\Mt H F ls (mN n+1) (kN n+mN n+1) (fun i j=>AT T n j i)/\H hl=some (.lst (hdL (mN n) (Sh.h0 (kN n)))) /\
 ∀ h ls' H',OkT T n h->(∀ j,j<NN n->0<=RT T n h (mN n) j)->Mt H' F ls' (mN n+1) (kN n+mN n+1) (RT T n h)->H' hl=some (.lst (hdL (mN n) h))->(∀ b o,b≠F->b≠hl->H b=some o->H' b=some o)->Q (.int (dT T n h)) H'
theorem aKd:∀ vs H Q E,aJE K vs H Q E->aCZ K (aJd K) (aHW K) (aIj K) { nx:=fun _ H'=>Q .non H',rt:=Q } (bD ["rows","held","bottom","column","at"] vs) H:=by
 intro vs H Q E h
 obtain⟨F,hl,ls,T,n,rfl,n3,n6,bT,M,hh,q⟩:=h
 obtain⟨nd,m15,m1,pij,k40,sg⟩:=rD n3 n6
 have ok0:=aLM n3 n6 bT
 have M:Mt H F ls (mN n+1) (kN n+mN n+1) (RT T n (Sh.h0 (kN n))):=M.congr fun i j hi hj=>(Sh.R0 (by omega)).symm
 let Col:(Nat->Nat)->V->Prop:=fun h x=>(x = .non/\∀ j,j<NN n->0<=RT T n h (mN n) j)\/∃ c:Nat,x = .int (c:Int)/\c<NN n/\RT T n h (mN n) c<0/\∀ j,j<c->0<=RT T n h (mN n) j
 let W:Nat->St->Hp->Prop:=fun k σ' H'=>∃ (h:Nat->Nat) (ls':List Addr) (x3:V) (x4:Option V),Sh.Rem (AT T n) (mN n) (NN n) k h/\OkT T n h/\Mt H' F ls' (mN n+1) (kN n+mN n+1) (RT T n h)/\H' hl=some (.lst (hdL (mN n) h))/\(∀ b o,b≠F->b≠hl->H b=some o->H' b=some o)/\σ'=[some (.ref F),some (.ref hl),some (.int (dT T n h)),some x3,x4]/\Col h x3
 have dd1:dT T n (Sh.h0 (kN n))=1:=Sh.dd0
 refine ⟨_,rfl,F,ls,mN n,NN n,_,rfl,M,by show kN n+mN n<=100;omega,fun H0 s0=>?_⟩
 have st:∀ x3,Col (Sh.h0 (kN n)) x3->∃ W:Nat->St->Hp->Prop,(∃ m,W m [some (.ref F),some (.ref hl),some (.int 1),some x3,none] H0)/\∀ m σ H',W m σ H'->bU (tOp aAE (aF 3) (tC .non)) σ H' fun b H1=>if b=true then ∃ N:St->Hp->Prop,(∀ σ' H',N σ' H'->∃ m',m'<m/\W m' σ' H')/\(aP (bW (bG (aHW K) [] E0 (aC (aF 0) (aC (aF 1) (aC (aF 3) aO)))) (aK 4)) (aP (nP (bG (aIj K) [] E0 (aC (aF 0) (aC (aF 4) (aC (aF 3) (aC (aF 2) aO)))))) (aP (bW (aF 3) (oB (aF 1) (aF 4) fH)) (aP (bW (tOp (bH K) (tOp (bH K) (aF 0) (aF 4)) (aF 3)) (aK 2)) (aP (bW (bG (aJd K) [] E0 (aC (aF 0) aO)) (aK 3)) aL))))) { nx:=N,rt:=Q,bk:=aP (eK (aF 2)) aL { nx:=fun _ H'=>Q .non H',rt:=Q },ct:=N } σ H1 else aP (eK (aF 2)) aL { nx:=fun _ H'=>Q .non H',rt:=Q } σ H1:=by
  intro x3 cx
  obtain⟨k0,rem0⟩:=ok0.rem
  refine ⟨W,⟨k0,Sh.h0 (kN n),ls,x3,none,rem0,ok0,M.same s0,s0 _ _ hh,fun b o _ _ e=>s0 _ _ e,by rw[dd1],cx⟩,?_⟩
  rintro k σ1 H1 ⟨h,ls1,y3,x4,rem,ok,M1,hh1,sa1,rfl,col⟩
  refine ⟨_,rfl, .inr ⟨rfl,_,rfl,?_⟩⟩
  rcases col with ⟨rfl,all⟩ | ⟨c,rfl,cN,neg,fst⟩
  ·exact cD rfl ⟨_,rfl,q h ls1 H1 ok all M1 hh1 sa1⟩
  ·refine dJ rfl ⟨fun σ' H'=>∃ k',k'<k/\W k' σ' H',fun σ' H' z=>z,?_⟩
   have fb:=aFS n3 n6 bT h
   refine ⟨_,rfl,_,rfl,_,rfl,F,hl,ls1,mN n,NN n,c,RT T n h,h,rfl,M1,hh1,fb,gy cN,by omega,unT n3 n6 ok cN neg,fun r H2 s2 rm pr le=>?_⟩
   refine ⟨_,rfl,_,rfl,_,rfl,_,rfl,F,ls1,mN n+1,kN n+mN n+1,r,c,dT T n h,RT T n h,rfl,M1.same s2,fb,ok.d0,yL n3 n6 bT h,by omega,gw cN,by omega,by omega,fun ls3 H3 M3 sx3=>?_⟩
   have nh1:=Mt.nohl M1 hh1
   have hh3:H3 hl=some (.lst (hdL (mN n) h)):=sx3 _ _ nh1.1 (s2 _ _ hh1)
   have nh3:=Mt.nohl M3 hh3
   refine ⟨_,rfl,_,rfl,_,rfl,hl,_,(r:Int),r,rfl,rfl,hh3,?_,?_⟩
   ·rw[hV]
    unfold ixN
    rw[if_pos (by omega),if_pos (by omega),bz]
   rw[show (V.int (c:Int))=fI c from rfl,aHk rm]
   have st:Sh.Stp (AT T n) (mN n) (NN n) h (Sh.put h r c) c r:=⟨cN,rm,neg,fst,pr,fun i hi pi=>le i hi pi,rfl⟩
   have ok':=ok.step st
   have M4:Mt (upd H3 hl (.lst (hdL (mN n) (Sh.put h r c)))) F ls3 (mN n+1) (kN n+mN n+1) (RT T n (Sh.put h r c)):=by
    have M5:Mt H3 F ls3 (mN n+1) (kN n+mN n+1) (RT T n (Sh.put h r c)):=M3.congr fun i j hi hj=>by
     unfold tnF
     by_cases e:i=r
     ·subst e;rw[if_pos rfl];exact (Sh.R_row rm).symm
     ·rw[if_neg e]
      have z:=Sh.R_turn (c:=c) ok rm (show i<=mN n by omega) e (show j<=NN n by show j<=kN n+mN n;omega)
      show (RT T n h i j*RT T n h r c - RT T n h i c*RT T n h r j) / dT T n h=RT T n (Sh.put h r c) i j
      rw[ez (RT T n h i j),<- z]
      exact nh _ (by have:=ok.d0;omega)
    exact ⟨by rw[bA (ig nh3.1)];exact M5.top,M5.len,fun i l e=>by rw[bA fun z:l=hl=>nh3.2 (z ▸ bt e)];exact M5.row i l e,M5.out⟩
   have hh4:(upd H3 hl (.lst (hdL (mN n) (Sh.put h r c)))) hl=some (.lst (hdL (mN n) (Sh.put h r c))):=aD
   have sa4:∀ b o,b≠F->b≠hl->H b=some o->(upd H3 hl (.lst (hdL (mN n) (Sh.put h r c)))) b=some o:=fun b o h1 h2 e=>by
    rw[bA h2]
    exact sx3 _ _ h1 (s2 _ _ (sa1 b o h1 h2 e))
   generalize upd H3 hl (.lst (hdL (mN n) (Sh.put h r c)))=G at *
   have ed:dT T n (Sh.put h r c)=RT T n (Sh.put h r c) r c:=by
    show Sh.dd _ _ _=Sh.R _ _ _ _ _
    rw[Sh.dd_put rm,Sh.R_row rm]
   refine aFm (t:=0) (si:=4) (sj:=3) (i:=r) (j:=c) M4 rfl rfl rfl (by omega) (gw cN) ?_
   rw[<- ed]
   obtain⟨k',rfl⟩:∃ k',k=k'+1:=by
    cases k with
    | zero=>exact absurd ⟨c,r,st⟩ (rem _)
    | succ k'=>exact ⟨k',rfl⟩
   have rem':=rem _ ⟨c,r,st⟩
   refine ⟨_,rfl,F,ls3,mN n,NN n,_,rfl,M4,by show kN n+mN n<=100;omega,fun H5 s5=>⟨fun all=>?_,fun c' c'N neg' fst'=>?_⟩⟩
   ·exact ⟨k',by omega,_,ls3,_,_,rem',ok',M4.same s5,s5 _ _ hh4,fun b o h1 h2 e=>s5 _ _ (sa4 b o h1 h2 e),rfl, .inl ⟨rfl,all⟩⟩
   ·exact ⟨k',by omega,_,ls3,_,_,rem',ok',M4.same s5,s5 _ _ hh4,fun b o h1 h2 e=>s5 _ _ (sa4 b o h1 h2 e),rfl, .inr ⟨c',rfl,c'N,neg',fst'⟩⟩
 exact ⟨fun all=>st .non (.inl ⟨rfl,all⟩),fun c cN neg fst=>st (.int (c:Int)) (.inr ⟨c,rfl,cN,neg,fst⟩)⟩
end
def lo (i j:Int):Int × Int:=(i / gd i j,j / gd i j)
def aBs (T:List (List Int)) (n:Nat) (h:Nat->Nat) (i:Nat):Bool:=decide (h i<kN n) && !decide (RT T n h i (NN n)=0)
def aJV (T:List (List Int)) (n:Nat) (h:Nat->Nat) (i:Nat):List Int × Int × Int:=((stA n (h i)).1.map Int.ofNat,lo ((stA n (h i)).2*RT T n h i (NN n)) (dT T n h))
def aFr (T:List (List Int)) (n:Nat) (h:Nat->Nat):List (List Int × Int × Int):=((av (mN n)).filter (aBs T n h)).map (aJV T n h)
def aHV (T:List (List Int)) (n:Nat) (h:Nat->Nat) (p:Nat):Bool:=decide (0<RT T n h (mN n) (kN n+p))
def aJT (T:List (List Int)) (n:Nat) (h:Nat->Nat) (p:Nat):List Int:=[((prA n p).1:Int),((prA n p).2:Int),(lo (RT T n h (mN n) (kN n+p)) (dT T n h)).1,(lo (RT T n h (mN n) (kN n+p)) (dT T n h)).2]
def aLG (T:List (List Int)) (n:Nat) (h:Nat->Nat):List (List Int):=((av (mN n)).filter (aHV T n h)).map (aJT T n h)
theorem aLb:∀ n,3<=n->n<=6->decide (gZ n).Nodup=true:=n36 (by decide +kernel) (by decide +kernel) (by decide +kernel) (by decide +kernel)
theorem aHb {n j:Nat}(hj:j<kN n):(gZ n)[j]?=some (stA n j):=by
 have h:(gZ n)[j]?=some ((gZ n)[j]'hj):=ah hj
 rw[h]
 exact congrArg some (fT h).symm
theorem aIr {T:List (List Int)}{n:Nat}{h:Nat->Nat}(n3:3<=n)(n6:n<=6)(ok:OkT T n h){i j:Nat}(hi:i<mN n)(hj:j<mN n)(ki:h i<kN n)(kj:h j<kN n)(ne:i≠j):(stA n (h i)).1≠(stA n (h j)).1:=by
 intro e
 have nd:=of_decide_eq_true (aLb n n3 n6)
 have sg:=(rD n3 n6).2.2.2.2.2
 have hi2:=aHb ki
 have hj2:=aHb kj
 by_cases es:(stA n (h i)).2=(stA n (h j)).2
 ·have:stA n (h i)=stA n (h j):=y2 e es
  rw[this] at hi2
  obtain⟨a1,a2⟩:=ai.mp hi2
  obtain⟨b1,b2⟩:=ai.mp hj2
  exact ne (ok.inj hi hj ((m8 nd).mp (a2.trans b2.symm)))
 ·have op:(stA n (h i)).2 = -1*(stA n (h j)).2:=by
   rcases sg _ (bt hi2) with a | a <;> rcases sg _ (bt hj2) with b | b <;> rw[a,b] at es ⊢ <;> first | rfl | exact absurd rfl es
  refine Sh.no_opp ok hi hj (fun c=>?_) ne
  show AT T n (h i) c = -1*AT T n (h j) c
  by_cases c1:c<mN n
  ·show Sh.A0 _ _ _ _ _ _ _ = -1*Sh.A0 _ _ _ _ _ _ _
   rw[Sh.A0_step ki c1,Sh.A0_step kj c1]
   unfold coT
   rw[e,op]
   split
   ·rfl
   ·rfl
  ·by_cases c2:c=mN n
   ·subst c2
    show Sh.A0 _ _ _ _ _ _ _ = -1*Sh.A0 _ _ _ _ _ _ _
    rw[Sh.A0_ob ki,Sh.A0_ob kj]
    unfold obT
    rw[op]
    omega
   ·show Sh.A0 _ _ _ _ _ _ _ = -1*Sh.A0 _ _ _ _ _ _ _
    rw[Sh.A0_out (by omega),Sh.A0_out (by omega)]
    rfl
theorem aHQ {T:List (List Int)}{n:Nat}{h:Nat->Nat}(n3:3<=n)(n6:n<=6)(ok:OkT T n h):((aFr T n h).map (·.1)).Nodup:=by
 unfold aFr
 rw[gz]
 refine List.pairwise_map.mpr ((List.pairwise_lt_range.filter (aBs T n h)).imp_of_mem fun {a b} ha hb lt e=>?_)
 obtain⟨a1,a2⟩:=i8.mp ha
 obtain⟨b1,b2⟩:=i8.mp hb
 have a1:=gr.mp a1
 have b1:=gr.mp b1
 unfold aBs at a2 b2
 rw[du] at a2 b2
 exact aIr n3 n6 ok a1 b1 (of_decide_eq_true a2.1) (of_decide_eq_true b2.1) (by omega) (zY.mp e)
def RG {α:Type} (P:Addr->α->Prop) (xs:List V) (L:List α):Prop:=xs.length=L.length/\∀ (i:Nat) (e:α),L[i]?=some e->∃ b,xs[i]?=some (.ref b)/\P b e
section
variable {α:Type}{P P':Addr->α->Prop}{xs:List V}{L:List α}
theorem uJ:RG P [] []:=⟨rfl,fun i e h=>by cases h⟩
theorem eN (h:RG P xs L)(f:∀ b e,P b e->P' b e):RG P' xs L:=⟨h.1,fun i e he=>let ⟨b,e1,e2⟩:=h.2 i e he;⟨b,e1,f _ _ e2⟩⟩
theorem xJ (h:RG P xs L){b:Addr}{e:α}(hb:P b e):RG P (xs++[.ref b]) (L++[e]):=by
 refine ⟨by rw[az,az,h.1];rfl,fun i e' he=>?_⟩
 by_cases hi:i<L.length
 ·rw[dj hi] at he
  obtain⟨b',e1,e2⟩:=h.2 i e' he
  exact ⟨b',by rw[dj (by rw[h.1];exact hi)];exact e1,e2⟩
 ·rw[da (by omega)] at he
  have:i - L.length=0:=by
   rcases hk:i - L.length with _ | k
   ·rfl
   ·rw[hk] at he;cases he
  rw[this] at he
  cases he
  exact ⟨b,by rw[da (by rw[h.1];omega),h.1,this];rfl,hb⟩
theorem aJC (h:RG P xs L){i:Nat}{x:V}(hx:xs[i]?=some x):∃ e b,L[i]?=some e/\x = .ref b/\P b e:=by
 have hi:i<L.length:=by rw[<- h.1];exact (ai.mp hx).1
 obtain⟨b,e1,e2⟩:=h.2 i L[i] (ah hi)
 rw[hx] at e1
 exact ⟨L[i],b,ah hi,bf e1,e2⟩
end
theorem nT {i:Nat}{p:Nat->Bool}:(av (i+1)).filter p=(av i).filter p++if p i=true then [i] else []:=by
 rw[qq,j7]
 congr 1
 by_cases c:p i=true
 ·rw[if_pos c,kz c];rfl
 ·rw[if_neg c,la c];rfl
theorem xA {i:Nat}{p:Nat->Bool}:((av i).filter p).length<=i:=by have:=dq p (av i);rw[dy] at this;exact this
section
variable {K:aa}
theorem wR {b1 b2:Bool}{l1 l2:Addr}{xs ys:List V}{g:TG}{tb:TS}{D:lO}{σ:St}{H:Hp}(hlen:ys.length<=xs.length)(Pv:Nat->St->Hp->Prop)(h0:Pv 0 σ H)(hl:∀ i σ H,i<=ys.length->Pv i σ H->SqB b1 K H l1 xs/\SqB b2 K H l2 ys)
  (hs:∀ i x y σ H p,xs[i]?=some x->ys[i]?=some y->H p=none->Pv i σ H->g (.ref p) σ (upd H p (.tup [x,y])) fun σ2 H2=>tb { D with nx:=Pv (i+1),ct:=Pv (i+1),bk:=D.nx } σ2 H2) (hd:∀ σ H,Pv ys.length σ H->D.nx σ H) :
  iO (Itz K b1 b2 l1 l2) g tb D σ H:=by
 refine ⟨fun i m σ H=>m=ys.length - i/\i<=ys.length/\Pv i σ H,⟨ys.length,by simp,ay _,h0⟩,?g⟩
 case g=>
 rintro i m σ H ⟨rfl,hi,p⟩
 obtain⟨q1,q2⟩:=hl i σ H hi p
 by_cases hlt:i<ys.length
 ·refine .inr ⟨⟨xs,ys,xs[i],ys[i],q1,q2,by simp [show i<xs.length by omega],by simp [hlt]⟩,Pv (i+1),fun σ' H' p'=>⟨ys.length - (i+1),by omega,rfl,hlt,p'⟩,fun v H' ⟨a,x,y,e1,e2,e3,e4,e5⟩=>?g⟩
  case g=>
  subst e1;subst e3
  exact hs i x y σ H a (e4 xs q1) (e5 ys q2) e2 p
 ·obtain rfl:i=ys.length:=by omega
  exact .inl ⟨⟨xs,ys,q1,q2, .inr (bg _)⟩,hd σ H p⟩
theorem Pt.same {H H':Hp}{b:Addr}{e:List Int × Int × Int}(s:Same H H')(h:Pt K H b e):Pt K H' b e:=let ⟨q,f,a1,a2,a3⟩:=h;⟨q,f,s.tup a1,s.tup a2,s.tup a3⟩
theorem Pt.x {H H':Hp}{b p:Addr}{ys:List V}{e:List Int × Int × Int}(hp:H p=some (.lst ys))(s:SameX p H H')(h:Pt K H b e):Pt K H' b e:=let ⟨q,f,a1,a2,a3⟩:=h;⟨q,f,lU a1 hp s,lU a2 hp s,lU a3 hp s⟩
theorem Tri.same {H H':Hp}{b:Addr}{e:List Int}(s:Same H H')(h:Tri K H b e):Tri K H' b e:=let ⟨q,x,y,t,z,a0,a1,a2⟩:=h;⟨q,x,y,t,z,a0,s.tup a1,s.tup a2⟩
theorem Tri.x {H H':Hp}{b p:Addr}{ys:List V}{e:List Int}(hp:H p=some (.lst ys))(s:SameX p H H')(h:Tri K H b e):Tri K H' b e:=let ⟨q,x,y,t,z,a0,a1,a2⟩:=h;⟨q,x,y,t,z,a0,lU a1 hp s,lU a2 hp s⟩
def aJO (K:aa):Sp:=fun vs H Q _=>∃ (S F hl:Addr) (ss:List V) (ls:List Addr) (T:List (List Int)) (n:Nat) (h:Nat->Nat),vs=[.ref S, .ref F, .ref hl, .int (dT T n h)]/\3<=n/\n<=6/\Bs T n/\OkT T n h/\H S=some (.lst ss)/\RowsS K H ss (gZ n)/\Mt H F ls (mN n+1) (kN n+mN n+1) (RT T n h)/\H hl=some (.lst (hdL (mN n) h)) /\
 ∀ C zs W H',Same H H'->H C=none->H' C=some (.lst zs)->W.Perm (aFr T n h)->(W.map (·.1)).Pairwise (fun a b=>lexL b a=false)->rK K H' zs W->Q (.ref C) H'
theorem aLj:∀ vs H Q E,aJO K vs H Q E->rY K (aAV K) { nx:=fun _ H'=>Q .non H',rt:=Q } (bD ["steps","rows","held","bottom","cuts","row","column","some","sign"] vs) H:=by
 intro vs H Q E h
 obtain⟨S,F,hl,ss,ls,T,n,h,rfl,n3,n6,bT,ok,hS,rS,M,hh,q⟩:=h
 obtain⟨nd,m15,m1,pij,k40,sg⟩:=rD n3 n6
 have sl:ss.length=kN n:=rS.1
 refine ⟨show 0<=ba by decide,fun C hC=>?_⟩
 have mC:=aG hC (.lst [])
 have hC1:(upd H C (.lst [])) C=some (.lst []):=aD
 generalize upd H C (.lst [])=G at *
 refine ⟨_,rfl,_,rfl,F,hl,true,true,rfl,⟨_, .of (mC _ _ M.top)⟩,⟨_, .of (mC _ _ hh)⟩,?_⟩
 refine wR (K:=K) (b1:=true) (b2:=true) (l1:=F) (l2:=hl) (xs:=ls.map V.ref) (ys:=hdL (mN n) h) (by rw[hV,af,M.len];omega) (fun i σ' H'=>i<=mN n/\Same H H'/\(∃ x5 x6 x7 x8,σ'=[some (.ref S),some (.ref F),some (.ref hl),some (.int (dT T n h)),some (.ref C),x5,x6,x7,x8])/\∃ zs,H' C=some (.lst zs)/\RG (Pt K H') zs (((av i).filter (aBs T n h)).map (aJV T n h)))
  ⟨ay _,mC,⟨_,_,_,_,rfl⟩,[],hC1,uJ⟩ (fun i σ1 H1 _ ⟨_,s1,_⟩=>⟨.of (s1 _ _ M.top), .of (s1 _ _ hh)⟩) (fun i x y σ1 H1 t hx hy ht ⟨_,s1,⟨x5,x6,x7,x8,es⟩,zs,hz,rz⟩=>?_) fun σ1 H1 ⟨_,s1,⟨x5,x6,x7,x8,es⟩,zs,hz,rz⟩=>?_
 ·subst es
  have hi:i<mN n:=by have:=(ai.mp hy).1;rw[hV] at this;exact this
  rw[uR hi] at hy
  obtain rfl:fI (h i)=y:=bf hy
  obtain⟨l,g1,g2,g3⟩:=M.at (show i<mN n+1 by omega)
  rw[g2] at hx
  obtain rfl:V.ref l=x:=bf hx
  have mt:=aG ht (.tup [V.ref l,fI (h i)])
  refine ⟨t,_,rfl, .of aD,rfl,_,_,rfl,_,_,rfl,rfl,?_⟩
  have s2:=s1.trans mt
  have hz2:=mt _ _ hz
  have rz2:=eN rz fun b e=>Pt.same mt
  generalize upd H1 t (.tup [V.ref l,fI (h i)])=G1 at *
  have hl2:=s2 _ _ g3
  refine ⟨_,rfl,_,rfl,S,_,rfl, .inl (.of (s2 _ _ hS)),_,_,rfl,rfl,_,rfl,?_⟩
  rw[sl]
  have ed:decide (((h i:Nat):Int)<((kN n:Nat):Int))=decide (h i<kN n):=by
   by_cases c:h i<kN n
   ·rw[decide_eq_true c];exact decide_eq_true (by omega)
   ·rw[decide_eq_false c];exact decide_eq_false (by omega)
  show if decide (((h i:Nat):Int)<((kN n:Nat):Int))=true then _ else _
  rw[ed]
  have skip:aBs T n h i=false->(i+1<=mN n/\Same H G1/\(∃ y5 y6 y7 y8,([some (.ref S),some (.ref F),some (.ref hl),some (.int (dT T n h)),some (.ref C),some (.ref l),some (fI (h i)),x7,x8]:St)=[some (.ref S),some (.ref F),some (.ref hl),some (.int (dT T n h)),some (.ref C),y5,y6,y7,y8])/\∃ zs,G1 C=some (.lst zs)/\RG (Pt K G1) zs (((av (i+1)).filter (aBs T n h)).map (aJV T n h))):=fun c=>by
   refine ⟨hi,s2,⟨_,_,_,_,rfl⟩,zs,hz2,?_⟩
   rw[nT,if_neg (by rw[c];decide),i4]
   exact rz2
  have lastv:∀ {R:VK},R (.int (RT T n h i (NN n))) G1->bH K (.ref l) (.int (-1)) G1 R:=fun r=>aCx (.of hl2) (by rw[bZ];omega) (by rw[bZ];exact nB (by omega)) r
  by_cases ck:h i<kN n
  ·refine dJ (decide_eq_true ck) ⟨_,rfl,1,rfl,lastv ⟨.int _, .int 0,ay _,rfl,rfl,_,rfl,?_⟩⟩
   have e0:(!eqD (.int (RT T n h i (NN n))) (.int 0)) = !decide (RT T n h i (NN n)=0):=by rw[eqD];rfl
   rw[e0]
   by_cases c0:RT T n h i (NN n)=0
   ·refine cD (by rw[decide_eq_true c0];rfl) (skip ?_)
    unfold aBs
    rw[decide_eq_true c0]
    simp
   ·refine dJ (by rw[decide_eq_false c0];rfl) ?_
    have ci:aBs T n h i=true:=by unfold aBs;rw[decide_eq_true ck,decide_eq_false c0];rfl
    obtain⟨b,q2,e1,e2,e3⟩:=(rS.same s2).2 _ _ (aHb ck)
    refine ⟨_,rfl,_,rfl,ixL (.of (s2 _ _ hS)) e1 ⟨b,_,rfl,e2,rfl,_,_,rfl,_,_,rfl,rfl,?_⟩⟩
    have sgb:=aEz (j:=h i) n3 n6
    refine ⟨_,rfl, .inl ⟨rfl,_, .of hz2⟩,_,rfl,_,rfl,_,rfl,1,rfl,lastv ⟨.inl (.inl ⟨by omega,by omega⟩),_,rfl,_,_,rfl,ok.d0,big (yL n3 n6 bT h),fun f H3 s3 hf=>⟨show 2<=ba by decide,fun u hu=>?_⟩⟩⟩
    have mu:=aG hu (.tup [V.ref q2, .ref f])
    have s4:=s3.trans mu
    have hz4:=s4 _ _ hz2
    refine ⟨C,zs,_,rfl,rfl,hz4,bq (show zs.length<=100 by rw[rz.1,af];have:=xA (i:=i) (p:=aBs T n h);omega) (by decide),hi,eJ hC (s2.trans s4),⟨_,_,_,_,rfl⟩,_,aD,?_⟩
    rw[nT,if_pos ci,cz]
    refine eN (xJ (eN rz2 fun b e=>Pt.same s4) (b:=u) (e:=aJV T n h i) ⟨q2,f, .of aD,?_,mu.tup (.of hf)⟩) fun b e=>Pt.x hz4 (SameX.put _)
    show SqT K _ q2 (((stA n (h i)).1.map Int.ofNat).map V.int)
    rw[<- iV]
    exact s4.tup e3
  ·refine cD (decide_eq_false ck) (cD rfl (skip ?_))
   unfold aBs
   rw[decide_eq_false ck]
   rfl
 ·subst es
  rw[hV] at rz
  refine ⟨_,rfl,C,zs,aFr T n h,rfl, .inl (.of hz),rz,aHQ n3 n6 ok,?_,fun ys W pW sW py rW l hl'=>?_⟩
  ·unfold aFr
   rw[af]
   have:=xA (i:=mN n) (p:=aBs T n h)
   omega
  ·have ml:=aG hl' (.lst ys)
   exact q l ys W _ (s1.trans ml) (s1.free hl') aD pW sW (eN rW fun b e=>Pt.same ml)
def aHC (K:aa) (C1 C2 C3:Addr):Sp:=fun vs H Q E=>∃ (v:V) (T:List (List Int)) (n:Nat),vs=[v]/\Sh K H (pY T) v/\Quad T n/\1<=n/\n<=8 /\
 (((jL T n).all id=false/\∀ H',Same H H'->E (.ref C1) none H')\/(Sy T n/\((n<3/\∀ H',Same H H'->E (.ref C2) none H')\/(6<n/\∀ H',Same H H'->E (.ref C3) none H')\/(3<=n/\n<=6/\∀ H',Same H H'->Q .non H'))))
theorem aKE {C1 C2 C3:Addr}:∀ vs H Q E,aHC K C1 C2 C3 vs H Q E->lK K C1 C2 C3 E (aKf K) { nx:=fun _ H'=>Q .non H',rt:=Q } (bD ["table"] vs) H:=by
 intro vs H Q E h
 obtain⟨v,T,n,rfl,hT,qT,n1,n8,q⟩:=h
 refine ⟨_,rfl,v,T,n,rfl,hT,qT,n1,n8,fun H1 s1=>?_⟩
 obtain⟨a,rs,rfl,ha,hl,_⟩:=id hT.tab
 have hl:rs.length=n:=hl.trans qT.len
 rcases q with ⟨ev,e⟩ | ⟨sy,q⟩
 ·exact ⟨_,rfl,dJ (by show (!(jL T n).all id)=true;rw[ev];rfl) (e H1 s1)⟩
 ·refine ⟨_,rfl,cD (by show (!(jL T n).all id)=false;rw[aEP sy];rfl) ?_⟩
  refine ⟨_,rfl,a,rs,rfl, .inr (s1.tup ha),_,_,rfl,rfl,_,rfl,?_⟩
  rw[hl]
  rcases q with ⟨lt,e⟩ | q
  ·exact dJ (decide_eq_true (by omega)) (e H1 s1)
  ·have n3:3<=n:=by rcases q with ⟨z,_⟩ | ⟨z,_⟩ <;> omega
   refine cD (decide_eq_false (by omega)) ⟨_,rfl,a,rs,rfl, .inr (s1.tup ha),_,_,rfl,rfl,_,rfl,?_⟩
   rw[hl]
   rcases q with ⟨gt,e⟩ | ⟨_,n6,q⟩
   ·exact dJ (decide_eq_true (by omega)) (e H1 s1)
   ·exact cD (decide_eq_false (by omega)) (q H1 s1)
end
section
variable {K:aa}
def aEc (K:aa) (C1 C2 C3:Addr):Sp:=fun vs H Q E=>∃ (v:V) (T:List (List Int)) (n:Nat),vs=[v]/\Sh K H (pY T) v/\Quad T n/\1<=n/\n<=8 /\
 (((jL T n).all id=false/\∀ H',Same H H'->E (.ref C1) none H')\/(Sy T n/\((n<3/\∀ H',Same H H'->E (.ref C2) none H')\/(6<n/\∀ H',Same H H'->E (.ref C3) none H')\/(3<=n/\n<=6/\Bs T n /\
  ∀ h p wp fl cl ys zs W H',Same H H'->OkT T n h->(∀ j,j<NN n->0<=RT T n h (mN n) j)->H' p=some (.tup [.ref wp, .ref fl, .ref cl])->H' wp=some (.tup [.int (lo (RT T n h (mN n) (NN n)) (dT T n h)).1, .int (lo (RT T n h (mN n) (NN n)) (dT T n h)).2])->H fl=none->H' fl=some (.lst ys)->aEA K H' ys (aLG T n h) ->
   H cl=none->cl≠fl->H' cl=some (.lst zs)->W.Perm (aFr T n h)->(W.map (·.1)).Pairwise (fun a b=>lexL b a=false)->rK K H' zs W->Q (.ref p) H'))))
theorem aIK {C1 C2 C3:Addr}:∀ vs H Q E,aEc K C1 C2 C3 vs H Q E->aBk K E (aIP K) (aJE K) (aJR K) (aAV K) (aJS K) (aJO K) (aHC K C1 C2 C3) { nx:=fun _ H'=>Q .non H',rt:=Q } (bD ["table","pairs","steps","rows","held","bottom","tops","found"] vs) H:=by
 intro vs H Q E h
 obtain⟨v,T,n,rfl,hT,qT,n1,n8,q⟩:=h
 refine ⟨_,rfl,v,T,n,rfl,hT,qT,n1,n8,?_⟩
 rcases q with q | ⟨sy,q | q | ⟨n3,n6,bT,q⟩⟩
 ·exact .inl q
 ·exact .inr ⟨sy, .inl q⟩
 ·exact .inr ⟨sy, .inr (.inl q)⟩
 refine .inr ⟨sy, .inr (.inr ⟨n3,n6,fun H1 s1=>?_⟩)⟩
 obtain⟨nd,m15,m1,pij,k40,sg⟩:=rD n3 n6
 obtain⟨a,rs,rfl,ha,hl,_⟩:=id hT.tab
 have hl:rs.length=n:=hl.trans qT.len
 refine ⟨_,rfl,a,rs,rfl, .inr (s1.tup ha),n,by rw[hl];rfl,n8,fun P ps H2 s2 _ hP rP=>?_⟩
 have s12:=s1.trans s2
 refine ⟨_,rfl,a,rs,rfl, .inr (s12.tup ha),n,by rw[hl];rfl,n3,n6,fun S ss H3 s3 _ hS rS=>?_⟩
 have s13:=s12.trans s3
 refine ⟨_,rfl,_,rfl,_,rfl, .ref a,P,S,ps,ss,T,n,rfl,hT.same s13,qT,n3,n6,s3 _ _ hP,rP.same s3,hS,rS,fun F ls H4 s4 hF0 M4=>?_⟩
 have s14:=s13.trans s4
 have pl:ps.length=mN n:=by rw[rP.1,lP];rfl
 have sl:ss.length=kN n:=rS.1
 have hP4:=(s3.trans s4) _ _ hP
 have hS4:=s4 _ _ hS
 refine ⟨_,rfl,P,_,rfl, .inl (.of hP4),(ps.length:Int),rfl,by omega,by omega,fun A hA=>?_⟩
 rw[bz,pl]
 have hv:∀ H',SameX A (upd H4 A (.lst [])) H'->Same H4 H':=fun H' sx=>cT hA sx
 refine cA [0] (hdL (mN n) (Sh.h0 (kN n))) hA (by rw[hV];omega) (Emits.cast (kQ (n:=mN n) (lo:=0) (j:=0) (L:=fun i=>[fI (kN n+i)]) (by decide) (by show 0<2;decide) fun i σ5 H5 hi l5 ag5 t0 sx5 _=>?_) (by rw[qA];rfl)) fun σ5 H5 s5 hA5=>?_
 ·have t1:σ5[1]?=some (some (.ref S)):=(ag5 1 (by decide)).trans rfl
  rw[jn] at t0
  refine dA fun R hR=>⟨_,t1,S,_,rfl, .inl (.of (hv _ sx5 _ _ hS4)),_,t0,?_⟩
  show R (.int ((ss.length:Int)+(i:Int))) H5
  rw[sl,show ((kN n:Nat):Int)+(i:Int)=((kN n+i:Nat):Int) by omega]
  exact hR _ (Same.refl _)
 have s15:=s14.trans s5
 refine ⟨_,rfl,_,rfl,F,A,ls,T,n,rfl,n3,n6,bT,M4.same s5,hA5,fun h ls6 H6 ok all M6 hh6 sa6=>?_⟩
 have nF:∀ b o,H3 b=some o->b≠F:=fun b o e z=>by rw[z,hF0] at e;cases e
 have nA:∀ b o,H4 b=some o->b≠A:=fun b o e z=>by rw[z,hA] at e;cases e
 have s36:Same H3 H6:=fun b o e=>sa6 b o (nF b o e) (nA b o (s4 _ _ e)) (s5 _ _ (s4 _ _ e))
 have s16:=s13.trans s36
 obtain⟨ll,g1,g2,g3⟩:=M6.at (show mN n<mN n+1 by omega)
 have lastR:∀ {R:VK},R (.ref ll) H6->bH K (.ref F) (.int (-1)) H6 R:=fun r=>aCx (.of M6.top) (by rw[af,M6.len];omega) (by rw[af,M6.len];exact g2) r
 refine ⟨_,rfl,1,rfl,lastR ⟨_,rfl,S,_,rfl, .inl (.of (s36 _ _ hS)),_,rfl,1,rfl,_,rfl, .inl ⟨ll,_,rfl, .of g3,fun tp htp=>?_⟩⟩⟩
 rw[sl,aEb (by rw[bZ];omega)]
 have et:((mkR (kN n+mN n+1) (RT T n h (mN n))).drop (kN n)).take ((mkR (kN n+mN n+1) (RT T n h (mN n))).length - 1 - kN n)=mkR (mN n) (fun p=>RT T n h (mN n) (kN n+p)):=by
  rw[bZ,show kN n+mN n+1 - 1 - kN n=mN n by omega]
  apply uj
  intro i
  rw[List.getElem?_take]
  by_cases c:i<mN n
  ·rw[if_pos c,j6,nB (by omega),nB c]
  ·rw[if_neg c]
   exact (pg (by rw[bZ];omega)).symm
 rw[et]
 have mtp:=aG htp (.lst (mkR (mN n) (fun p=>RT T n h (mN n) (kN n+p))))
 have htp7:(upd H6 tp (.lst (mkR (mN n) (fun p=>RT T n h (mN n) (kN n+p))))) tp=some (.lst (mkR (mN n) (fun p=>RT T n h (mN n) (kN n+p)))):=aD
 have s17:=s16.trans mtp
 have s37:=s36.trans mtp
 have M7:=M6.same mtp
 have hh7:=mtp _ _ hh6
 generalize upd H6 tp (.lst (mkR (mN n) (fun p=>RT T n h (mN n) (kN n+p))))=H7 at *
 have hP7:=s37 _ _ (s3 _ _ hP)
 have rP7:=(rP.same s3).same s37
 refine ⟨_,rfl,_,rfl,P,tp,true,true,rfl,⟨_, .of hP7⟩,⟨_, .of htp7⟩,fun B hB=>?_⟩
 refine wR (K:=K) (b1:=true) (b2:=true) (l1:=P) (l2:=tp) (xs:=ps) (ys:=mkR (mN n) (fun p=>RT T n h (mN n) (kN n+p))) (by rw[bZ,pl];omega) (fun i σ' H'=>i<=mN n/\Same H7 H'/\(∃ x0 x1 x2,σ'=[x0,x1,x2,some (.int (dT T n h))])/\∃ ys,H' B=some (.lst ys)/\RG (Tri K H') ys (((av i).filter (aHV T n h)).map (aJT T n h)))
  ⟨ay _,aG hB _,⟨_,_,_,rfl⟩,[],aD,uJ⟩ (fun i σ8 H8 _ ⟨_,s8,_⟩=>⟨.of (s8 _ _ hP7), .of (s8 _ _ htp7)⟩) (fun i x y σ8 H8 t hx hy ht ⟨_,s8,⟨x0,x1,x2,es⟩,ys,hz,rz⟩=>?_) fun σ8 H8 ⟨_,s8,_,ys,hz,rz⟩=>?_
 ·subst es
  obtain⟨hi,rfl⟩:=wD hy
  obtain⟨e,b,he,rfl,hb⟩:=yT (rP7.same s8) hx
  have ep:prA n i=e:=fT he
  have mt:=aG ht (.tup [V.ref b, .int (RT T n h (mN n) (kN n+i))])
  refine ⟨t,_,rfl, .of aD,rfl,_,_,rfl,b,_,rfl,mt.tup hb,rfl,_,_,rfl,_,_,rfl,rfl,_,_,rfl,rfl,?_⟩
  have s9:=s8.trans mt
  have hz9:=mt _ _ hz
  have rz9:=eN rz fun b e=>Tri.same mt
  generalize upd H8 t (.tup [V.ref b, .int (RT T n h (mN n) (kN n+i))])=H9 at *
  refine ⟨_,rfl,_,_,rfl,rfl,_,rfl,pL (fun c=>?_) fun c=>?_⟩
  ·have ci:aHV T n h i=true:=c
   refine ⟨_,rfl,_,rfl,_,rfl,_,rfl,_,_,rfl,ok.d0,big (yL n3 n6 bT h),fun f H10 s10 hf=>⟨show 3<=ba by decide,fun u hu=>?_⟩⟩
   have mu:=aG hu (.tup [fI e.1,fI e.2, .ref f])
   have s11:=s10.trans mu
   have hz11:=s11 _ _ hz9
   refine ⟨ys,hz11,bq (show ys.length<=100 by rw[rz.1,af];have:=xA (i:=i) (p:=aHV T n h);omega) (by decide),hi,eJ hB (s9.trans s11),⟨_,_,_,rfl⟩,_,aD,?_⟩
   rw[nT,if_pos ci,cz]
   refine eN (xJ (eN rz9 fun b e=>Tri.same s11) (b:=u) (e:=aJT T n h i) ⟨f,e.1,e.2,(lo (RT T n h (mN n) (kN n+i)) (dT T n h)).1,(lo (RT T n h (mN n) (kN n+i)) (dT T n h)).2,by unfold aJT;rw[ep], .of aD,mu.tup (.of hf)⟩) fun b e=>Tri.x hz11 (SameX.put _)
  ·refine ⟨hi,s9,⟨_,_,_,rfl⟩,ys,hz9,?_⟩
   have ci:¬ aHV T n h i=true:=c
   rw[nT,if_neg ci,i4]
   exact rz9
 ·rw[bZ] at rz
  have g3':=s8 _ _ (mtp _ _ g3)
  have Fl8:=s8 _ _ M7.top
  refine ⟨_,rfl,1,rfl,aCx (.of Fl8) (by rw[af,M7.len];omega) (by rw[af,M7.len];exact g2) ⟨1,rfl,aCx (.of g3') (by rw[bZ];omega) (by rw[bZ];exact nB (by omega)) ⟨_,rfl,_,_,rfl,ok.d0,big (yL n3 n6 bT h),fun wp H9 s9 hwp=>?_⟩⟩⟩
  have s89:=s8.trans s9
  refine ⟨_,rfl,_,rfl,_,rfl,_,rfl,_,rfl,S,F,A,ss,ls6,T,n,h,rfl,n3,n6,bT,ok,(s37.trans s89) _ _ hS,rS.same (s37.trans s89),M7.same s89,s89 _ _ hh7,fun cl zs W H10 s10 hcl0 hcl pW sW rW=>⟨show 3<=ba by decide,fun p hp=>?_⟩⟩
  have mp:=aG hp (.tup [V.ref wp, .ref B, .ref cl])
  have hB10:=s10 _ _ (s9 _ _ hz)
  refine q h p wp B cl ys zs W _ (((s17.trans s89).trans s10).trans mp) ok all aD ?_ (s17.free hB) (mp _ _ hB10) (eN rz fun b e=>Tri.same ((s9.trans s10).trans mp)) ((s17.trans s89).free hcl0) (fun z=>?_) (mp _ _ hcl) pW sW (eN rW fun b e=>Pt.same mp)
  ·exact mp _ _ (s10 _ _ hwp)
  ·rw[z,s9 _ _ hz] at hcl0
   cases hcl0
end
end K40
namespace K40.L
open PySem L2
def whD:Dt->Bool
 | .int _=>true
 | _=>false
def aLk:Dt->Bool
 | .tup ds=>ds.all whD
 | _=>false
inductive aIv (K : aa) (vs : List V) (H : Hp) (Q : VK) : Prop
 | mk (v : V) (d : Dt) (h0 : vs = [v]) (h1 : Sh K H d v) (h2 : ∀ H', Same H H' -> Q (.bl (whD d)) H') : aIv K vs H Q
def spW (K:aa):Sp:=fun vs H Q _=>aIv K vs H Q
inductive aGb (K : aa) (vs : List V) (H : Hp) (Q : VK) : Prop
 | mk (v : V) (d : Dt) (h0 : vs = [v]) (h1 : Sh K H d v) (h2 : (∀ ds, d = .tup ds -> ds.length <= 1000)) (h3 : ∀ H', Same H H' -> Q (.bl (aLk d)) H') : aGb K vs H Q
def spWs (K:aa):Sp:=fun vs H Q _=>aGb K vs H Q
theorem aBT {α β:Type}(f:α->β)(e:α):∀ ds:List α,(av ds.length).flatMap (fun i=>[f (ds.getD i e)])=ds.map f
 | []=>rfl
 | d :: ds=>by
  rw[dm,oo,km,List.flatMap_map,d3,<- aBT f e ds]
  rfl
section
variable {K:aa}
theorem rd_whole:∀ vs H Q E,spW K vs H Q E->uV K { nx:=fun _ H'=>Q .non H',rt:=Q } (bD ["thing"] vs) H:=by
 intro vs H Q E h
 obtain⟨v,d,rfl,hS,q⟩:=h
 have q0:=q H (Same.refl _)
 refine ⟨_,rfl,v,d,"int",rfl,by decide,hS,_,rfl,?_⟩
 by_cases hi:aGg d "int" = true
 ·rw[if_pos hi]
  refine ⟨_,rfl,v,d,"bool",rfl,by decide,hS,_,rfl,?_⟩
  cases d <;> first | exact q0 | (exact absurd hi (by simp [aGg]))
 ·rw[if_neg hi]
  cases d <;> first | exact q0 | (exact absurd (by rfl) hi)
theorem rd_wholes:∀ vs H Q E,spWs K vs H Q E->pO K (spW K) { nx:=fun _ H'=>Q .non H',rt:=Q } (bD ["thing"] vs) H:=by
 intro vs H Q E h
 obtain⟨v,d,rfl,hS,hz,q⟩:=h
 refine ⟨_,rfl,v,d,"tuple",rfl,by decide,hS,_,rfl,?_⟩
 by_cases hi:aGg d "tuple" = true
 ·rw[if_pos hi]
  cases d with
  | tup ds=>
   obtain⟨a,xs,rfl,ha,hL⟩:=id hS
   have hl:ds.length=xs.length:=hL.length
   refine ⟨_,rfl,a,rfl, .inr ⟨⟨xs,ha⟩,fun acc hacc=>?_⟩⟩
   refine cA [0] ((ds.map whD).map V.bl) hacc (by rw[af,af];exact dg (hz ds rfl) (by decide)) ?_ fun σ' H' sm hl'=>⟨acc,ds.map whD,rfl, .inl (.of hl'),?_⟩
   ·refine Emits.cast (L:=(av xs.length).flatMap fun i=>[V.bl (whD (ds.getD i .non))]) ?_ (by rw[<- hl,aBT (fun d=>V.bl (whD d)),gz];rfl)
    refine aEK (by decide) (by show 0<1;decide) (fun H' sx=>(cT hacc sx).tup ha) fun i x σ1 H1 hx l1 ag1 s1 sx1 _=>?_
    refine dA fun Q hQ=>?_
    have hi':i<ds.length:=by rw[hl];exact (ai.mp hx).1
    obtain⟨y,hy,sy⟩:=hL.get (j:=i) (d:=ds.getD i .non) (by rw[ao];simp [hi'])
    obtain rfl:y=x:=by rw[hx] at hy;cases hy;rfl
    exact ⟨_,s1,y,_,rfl,sy.same (cT hacc sx1),hQ⟩
   ·have:=q H' sm
    rw[show aLk (.tup ds)=ds.all whD from rfl] at this
    rw[sa]
    exact this
  | _=>exact absurd hi (by simp [aGg])
 ·rw[if_neg hi]
  have q0:=q H (Same.refl _)
  cases d <;> first | exact q0 | (exact absurd (by rfl) hi)
end
end K40.L
namespace K40
open PySem L2
def OkD (D:Int) (P:Pr):Prop:=∀ e∈P,0<e.2/\e.2 ∣ D/\e.1.natAbs<2 ^ 2000
def jN (D:Int) (P:Pr):Int:=(P.map fun e=>e.1*(D / e.2)).sum
theorem aGI {c b D:Int}(hb:0<b)(h1:c ∣ D)(h2:b ∣ D):c*(b / gd c b) ∣ D:=by
 obtain⟨r1,r2,r3,r4⟩:=rQ (i:=c) hb
 have g0:=oZ (i:=c) hb
 obtain⟨u,rfl⟩:=h1
 have h3:gd c b*(b / gd c b) ∣ gd c b*(c / gd c b*u):=by
  rw[<- r2,<- fk,<- r1]
  exact h2
 have h4:b / gd c b ∣ c / gd c b*u:=Int.dvd_of_mul_dvd_mul_left (by omega) h3
 obtain⟨w,hw⟩:=aAv h4 r4
 refine ⟨w,?_⟩
 rw[fk,<- hw]
theorem iM {c D:Int}(hc:0<c)(hD:0<D)(h:c ∣ D){k:Nat}(hb:D.natAbs<2 ^ k):c.natAbs<2 ^ k:=by
 have:=vb hD h
 omega
theorem aEw {x:Int}(h:x.natAbs<2 ^ 2000):x.natAbs<2 ^ 8000:=aw h (cg (by decide) (by decide))
theorem sS {D e:Int}(he:0<e)(hD:0<D){k:Nat}(hb:D.natAbs<2 ^ k):(D / e).natAbs<2 ^ k:=by
 have:D / e<=D:=Int.ediv_le_self _ (by omega)
 have:0<=D / e:=Int.ediv_nonneg (by omega) (by omega)
 omega
section
variable {K:aa}
def aJJ (K:aa):Sp:=fun vs H Q _=>∃ (a:Addr) (xs:List V) (P:Pr) (D:Int),vs=[.ref a]/\SqL K H a xs/\Rows K H xs (prI P)/\OkD D P/\0<D/\D.natAbs<2 ^ 2000/\∀ c:Int,0<c->c ∣ D->(∀ e∈P,e.2 ∣ c)->Q (.int c) H
theorem aKF:∀ vs H Q E,aJJ K vs H Q E->kE K aHF { nx:=fun _ H'=>Q .non H',rt:=Q } (bD ["some","common","top","bottom"] vs) H:=by
 intro vs H Q E h
 obtain⟨a,xs,P,D,rfl,ha,hr,okp,D0,Db,q⟩:=h
 have hl:xs.length=P.length:=by rw[hr.1];unfold prI;rw[af]
 refine ⟨_,rfl,a,rfl, .inl ⟨⟨_,ha⟩,cX (K:=K) (a:=a) (xs:=xs) (fun i σ' H'=>H'=H/\i<=xs.length/\∃ (c:Int) (x2 x3:Option V),σ'=[some (.ref a),some (.int c),x2,x3]/\0<c/\c ∣ D/\∀ e∈P.take i,e.2 ∣ c) ⟨rfl,ay _,1,none,none,rfl,by decide,Int.one_dvd _,by simp⟩ (fun i σ1 H1 _ ⟨e,_⟩=>by rw[e];exact ha) (fun i x σ1 H1 hx ⟨e,_,c,x2,x3,es,c0,cd,ce⟩=>?_) fun σ1 H1 ⟨e,_,c,x2,x3,es,c0,cd,ce⟩=>?_⟩⟩
 ·subst e es
  have hi:i<xs.length:=(ai.mp hx).1
  obtain⟨e,b,he,rfl,hb⟩:=aGe hr hx
  obtain⟨b0,bd,_⟩:=okp e (bt he)
  refine ⟨b,_,rfl,hb,rfl, .int e.1,[.int e.2],rfl, .int e.2,[],rfl,rfl,?_⟩
  have g0:=oZ (i:=c) b0
  obtain⟨r1,r2,r3,_⟩:=rQ (i:=c) b0
  have e2s:=aEw (iM b0 D0 bd Db)
  refine ⟨_,rfl,_,rfl,_,rfl,_,rfl,c,e.2,rfl,_,_,rfl,rfl,aDs b0 e2s, .inr ⟨aEw (iM c0 D0 cd Db),sS g0 b0 e2s⟩,rfl,hi,c*(e.2 / gd c e.2),_,_,rfl,q9 c0 r3,aGI b0 cd bd,fun x hx'=>?_⟩
  rw[gx,he] at hx'
  rcases dv.mp hx' with h | h
  ·exact Int.dvd_trans (ce x h) (Int.dvd_mul_right ..)
  ·obtain rfl:x=e:=by simpa using h
   refine ⟨c / gd c x.2,?_⟩
   have:c*(x.2 / gd c x.2)=(gd c x.2*(c / gd c x.2))*(x.2 / gd c x.2):=by rw[<- r1]
   rw[this,fk,gh,<- fk,ez (c / gd c x.2),fk,ez (c / gd c x.2),<- fk,<- r2]
 ·subst e es
  rw[hl,fq] at ce
  exact ⟨_,rfl,q c c0 cd ce⟩
def aIQ (D:Int) (P:Pr):List Int:=P.map fun e=>e.1*(D / e.2)
def aJF (K:aa):Sp:=fun vs H Q _=>∃ (a:Addr) (xs:List V) (P:Pr) (D:Int),vs=[.ref a, .int D]/\H a=some (.lst xs)/\Rows K H xs (prI P)/\OkD D P/\P.length<=100/\0<D/\D.natAbs<2 ^ 2000/\∀ l H',Same H H'->H' l=some (.lst ((aIQ D P).map V.int))->Q (.ref l) H'
theorem aKy:∀ vs H Q E,aJF K vs H Q E->sY K { nx:=fun _ H'=>Q .non H',rt:=Q } (bD ["some","bottom"] vs) H:=by
 intro vs H Q E h
 obtain⟨a,xs,P,D,rfl,ha,hr,okp,h8,D0,Db,q⟩:=h
 have hl:xs.length=P.length:=by rw[hr.1];unfold prI;rw[af]
 refine ⟨_,rfl,a,rfl, .inl ⟨⟨_, .of ha⟩,fun A hA=>?_⟩⟩
 refine cX (K:=K) (a:=a) (xs:=xs) (fun i σ' H'=>i<=xs.length/\Same H H'/\(∃ x0 x1,σ'=[x0,x1,some (.int D)])/\H' A=some (.lst ((aIQ D (P.take i)).map V.int))) ⟨ay _,aG hA _,⟨_,_,rfl⟩,aD⟩ (fun i σ1 H1 _ ⟨_,s1,_⟩ => .of (s1 _ _ ha)) (fun i x σ1 H1 hx ⟨_,s1,⟨x0,x1,es⟩,hA1⟩=>?_) fun σ1 H1 ⟨_,s1,_,hA1⟩=>?_
 ·subst es
  have hi:i<xs.length:=(ai.mp hx).1
  obtain⟨e,b,he,rfl,hb⟩:=aGe (hr.same s1) hx
  obtain⟨b0,b1,t1⟩:=okp e (bt he)
  refine ⟨b,_,rfl,hb,rfl, .int e.1,[.int e.2],rfl, .int e.2,[],rfl,rfl,?_⟩
  refine ⟨_,rfl,_,rfl,_,rfl,_,_,rfl,rfl,⟨b0,aEw (iM b0 D0 b1 Db)⟩, .inr ⟨aEw t1,aEw (sS b0 D0 Db)⟩,_,hA1,?_,hi,eJ hA s1,⟨_,_,rfl⟩,?_⟩
  ·rw[af]
   unfold aIQ
   rw[af,df]
   exact bq (show _<=100 by omega) (by decide)
  ·rw[aD,gx,he]
   unfold aIQ
   rw[cz,cz]
   rfl
 ·rw[hl,fq] at hA1
  exact q A H1 s1 hA1
theorem yN {c D:Int}(hc:0<c)(hD:0<D)(hcD:c ∣ D):∀ {P:Pr},(∀ e∈P,0<e.2/\e.2 ∣ c)->jN c P*D=jN D P*c
 | [],_=>by simp [jN]
 | e :: P,h=>by
  have ih:=yN hc hD hcD (P:=P) fun x hx=>h x (bu _ hx)
  obtain⟨e0,u,rfl⟩:=h e (dh ..)
  obtain⟨w,rfl⟩:=hcD
  have x1:e.2*u / e.2=u:=nh _ (by omega)
  have x2:e.2*u*w / e.2=u*w:=by rw[fk];exact nh _ (by omega)
  unfold jN at ih ⊢
  rw[d3,d3,List.sum_cons,List.sum_cons,xu,xu,ih,x1,x2]
  congr 1
  simp only [fk,gh,ez]
theorem aKW {a b c d:Int}(hb:0<b)(hd:0<d)(h:a*d=c*b):lo a b=lo c d:=by
 obtain⟨e1,e2⟩:=aIs hb hd h
 unfold lo
 rw[e1,e2]
def yQ (K:aa):Sp:=fun vs H Q _=>∃ (a:Addr) (xs:List V) (P:Pr) (D:Int),vs=[.ref a]/\H a=some (.lst xs)/\Rows K H xs (prI P)/\OkD D P/\P.length<=100/\0<D/\D.natAbs<2 ^ 2000/\∀ p H',Same H H'->H' p=some (.tup [.int (lo (jN D P) D).1, .int (lo (jN D P) D).2])->Q (.ref p) H'
theorem aID:∀ vs H Q E,yQ K vs H Q E->aCE K (aJJ K) (aAV K) (aJF K) { nx:=fun _ H'=>Q .non H',rt:=Q } (bD ["some","bottom"] vs) H:=by
 intro vs H Q E h
 obtain⟨a,xs,P,D,rfl,ha,hr,okp,h8,D0,Db,q⟩:=h
 refine ⟨_,rfl,a,xs,P,D,rfl, .of ha,hr,okp,D0,Db,fun c c0 cd ce=>?_⟩
 have cb:=iM c0 D0 cd Db
 refine ⟨_,rfl,_,rfl,a,xs,P,c,rfl,ha,hr,fun e he=>⟨(okp e he).1,ce e he,(okp e he).2.2⟩,h8,c0,cb,fun l H1 s1 hl=>⟨l,aIQ c P,rfl, .inl (.of hl),_,rfl,_,_,rfl,c0,aEw cb,fun p H2 s2 hp=>q p H2 (s1.trans s2) ?_⟩⟩
 rw[hp]
 have e:=aKW c0 D0 (yN c0 D0 cd (P:=P) fun e he=>⟨(okp e he).1,ce e he⟩)
 rw[<- e]
 rfl
def Fr (K:aa) (H:Hp) (a:Addr) (t b:Int):Prop:=SqT K H a [.int t, .int b]
def aDB (K:aa):Sp:=fun vs H Q _=>∃ (x y:Addr) (t b t' b':Int),vs=[.ref x, .ref y]/\Fr K H x t b/\Fr K H y t' b'/\t.natAbs<2 ^ 2000/\b.natAbs<2 ^ 2000/\t'.natAbs<2 ^ 2000/\b'.natAbs<2 ^ 2000/\0<b/\0<b'/\∀ p H',Same H H'->H' p=some (.tup [.int (lo (t*t') (b*b')).1, .int (lo (t*t') (b*b')).2])->Q (.ref p) H'
theorem aIo:∀ vs H Q E,aDB K vs H Q E->aDG K (aAV K) { nx:=fun _ H'=>Q .non H',rt:=Q } (bD ["one","other"] vs) H:=by
 intro vs H Q E h
 obtain⟨x,y,t,b,t',b',rfl,hx,hy,h1,h2,h3,h4,h5,h6,q⟩:=h
 refine ⟨_,rfl,ixT (j:=0) hx rfl ⟨_,rfl,ixT (j:=0) hy rfl ⟨.inr ⟨aEw h1,aEw h3⟩,_,rfl,ixT (j:=1) hx rfl ⟨_,rfl,ixT (j:=1) hy rfl ⟨.inr ⟨aEw h2,aEw h4⟩,_,_,rfl,q9 h5 h6,?_,fun p H' s hp=>q p H' s hp⟩⟩⟩⟩⟩
 exact aw (aBB h2 h4) (cg (by decide) (by decide))
def aIF (K:aa):Sp:=fun vs H Q _=>∃ (x y:Addr) (t b t' b':Int),vs=[.ref x, .ref y]/\Fr K H x t b/\Fr K H y t' b'/\t.natAbs<2 ^ 8000/\b.natAbs<2 ^ 8000/\t'.natAbs<2 ^ 8000/\b'.natAbs<2 ^ 8000/\Q (.bl (decide (t*b'<t'*b))) H
theorem aKH:∀ vs H Q E,aIF K vs H Q E->yH K { nx:=fun _ H'=>Q .non H',rt:=Q } (bD ["one","other"] vs) H:=by
 intro vs H Q E h
 obtain⟨x,y,t,b,t',b',rfl,hx,hy,h1,h2,h3,h4,q⟩:=h
 exact ⟨_,rfl,ixT (j:=0) hx rfl ⟨_,rfl,ixT (j:=1) hy rfl ⟨.inr ⟨h1,h4⟩,_,rfl,ixT (j:=0) hy rfl ⟨_,rfl,ixT (j:=1) hx rfl ⟨.inr ⟨h3,h2⟩,_,_,rfl,rfl,q⟩⟩⟩⟩⟩
theorem aKZ {α β:Type}(p:α->Bool)(g:α->β)(e:α):([e].filter p).map g=if p e=true then [g e] else []:=by
 by_cases c:p e=true
 ·rw[if_pos c,kz c];rfl
 ·rw[if_neg c,la c];rfl
abbrev Shs:=List ((Nat × Nat) × (Int × Int))
def aAp (L:Shs):List (List Int):=L.map fun e=>[(e.1.1:Int),(e.1.2:Int),e.2.1,e.2.2]
def xH (s:List Nat) (L:Shs):Pr:=(L.filter fun e=>prt s e.1.1 e.1.2).map (·.2)
theorem wP {H:Hp}{ys:List V}{L:Shs}(h:aEA K H ys (aAp L)){i:Nat}{x:V}(hx:ys[i]?=some x):∃ e b q,L[i]?=some e/\x = .ref b/\SqT K H b [fI e.1.1,fI e.1.2, .ref q]/\SqT K H q [.int e.2.1, .int e.2.2]:=by
 obtain⟨row,b,hr,rfl,q,x,y,t,z,er,h1,h2⟩:=aJC (show RG (Tri K H) ys (aAp L) from h) hx
 unfold aAp at hr
 rw[cf] at hr
 cases he:L[i]? with
 | none=>rw[he] at hr;cases hr
 | some e=>
  rw[he] at hr
  have z1:=(bf hr).trans er
  simp only [we,and_true] at z1
  obtain⟨a1,a2,a3,a4⟩:=z1
  subst a1 a2 a3 a4
  exact ⟨e,b,q,rfl,rfl,h1,h2⟩
theorem vP {D:Int}{P P':Pr}(h:OkD D P)(s:∀ e∈P',e∈P):OkD D P':=fun e he=>h e (s e he)
theorem oO {P P':Pr}:prI (P++P')=prI P++prI P':=by unfold prI;rw[cz]
def aJK (K:aa):Sp:=fun vs H Q _=>∃ (l c:Addr) (ys:List V) (L:Shs) (s:List Nat) (D:Int),vs=[.ref l, .ref c]/\H l=some (.lst ys)/\aEA K H ys (aAp L)/\L.length<=60/\SqT K H c (s.map fI)/\OkD D (L.map (·.2))/\0<D/\D.natAbs<2 ^ 2000 /\
 ∀ p H',Same H H'->H' p=some (.tup [.int (lo (jN D (xH s L)) D).1, .int (lo (jN D (xH s L)) D).2])->Q (.ref p) H'
theorem aKo:∀ vs H Q E,aJK K vs H Q E->uN K (aHE K) (yQ K) { nx:=fun _ H'=>Q .non H',rt:=Q } (bD ["some","cut"] vs) H:=by
 intro vs H Q E h
 obtain⟨l,c,ys,L,s,D,rfl,hl,rL,z,hc,okd,D0,Db,q⟩:=h
 have yl:ys.length=L.length:=by rw[rL.1];unfold aAp;rw[af]
 refine ⟨_,rfl,l,rfl, .inl ⟨⟨_, .of hl⟩,fun A hA=>?_⟩⟩
 refine cX (K:=K) (a:=l) (xs:=ys) (fun i σ' H'=>i<=ys.length/\Same H H'/\(∃ x0 x1 x2,σ'=[x0,x1,x2,some (.ref c)])/\∃ zs,H' A=some (.lst zs)/\Rows K H' zs (prI (xH s (L.take i)))) ⟨ay _,aG hA _,⟨_,_,_,rfl⟩,[],aD,Rows.nil⟩ (fun i σ1 H1 _ ⟨_,s1,_⟩ => .of (s1 _ _ hl)) (fun i x σ1 H1 hx ⟨_,s1,⟨x0,x1,x2,es⟩,zs,hA1,r1⟩=>?_) fun σ1 H1 ⟨_,s1,_,zs,hA1,r1⟩=>?_
 ·subst es
  have hi:i<ys.length:=(ai.mp hx).1
  obtain⟨e,b,f,he,rfl,hb,hf⟩:=wP (K:=K) (H:=H1) (eN rL fun b e=>Tri.same s1) hx
  refine ⟨b,_,rfl,hb,rfl,_,_,rfl,_,_,rfl,_,_,rfl,rfl,?_⟩
  refine ⟨_,rfl,_,rfl,_,rfl,c,s,e.1.1,e.1.2,rfl,s1.tup hc,_,rfl,?_⟩
  have e1:xH s (L.take (i+1))=xH s (L.take i)++if prt s e.1.1 e.1.2=true then [e.2] else []:=by
   unfold xH
   rw[gx,he,j7,cz]
   congr 1
   exact aKZ (fun e:(Nat × Nat) × (Int × Int)=>prt s e.1.1 e.1.2) (·.2) e
  refine pL (fun cp=>?_) fun cp=>?_
  ·rw[if_pos cp] at e1
   refine ⟨_,rfl,zs,hA1,bq (show zs.length<=100 by rw[r1.1];unfold prI xH;rw[af,af];have:=dq (fun e:(Nat × Nat) × (Int × Int)=>prt s e.1.1 e.1.2) (L.take i);rw[df] at this;omega) (by decide),hi,eJ hA s1,⟨_,_,_,rfl⟩,_,aD,?_⟩
   rw[e1,oO]
   exact Rows.put (Rows.snoc r1 (b:=f) (r:=[e.2.1,e.2.2]) hf) hA1
  ·rw[if_neg cp,i4] at e1
   refine ⟨hi,s1,⟨_,_,_,rfl⟩,zs,hA1,?_⟩
   rw[e1]
   exact r1
 ·rw[yl,fq] at r1
  refine ⟨A,zs,xH s L,D,rfl,hA1,r1,vP okd fun e he=>?_,?_,D0,Db,fun p H2 s2 hp=>q p H2 (s1.trans s2) hp⟩
  ·obtain⟨x,hx,rfl⟩:=fh.mp he
   exact fh.mpr ⟨x,(i8.mp hx).1,rfl⟩
  ·unfold xH
   rw[af]
   have:=dq (fun e:(Nat × Nat) × (Int × Int)=>prt s e.1.1 e.1.2) L
   omega
abbrev Cts:=List (List Nat × (Int × Int))
def aCR (W:Cts):List (List Int × Int × Int):=W.map fun e=>(e.1.map Int.ofNat,e.2)
def aCt (i j:Nat) (W:Cts):Pr:=(W.filter fun e=>prt e.1 i j).map (·.2)
theorem zQ {H:Hp}{ys:List V}{W:Cts}(h:rK K H ys (aCR W)){i:Nat}{x:V}(hx:ys[i]?=some x):∃ e b q f,W[i]?=some e/\x = .ref b/\SqT K H b [.ref q, .ref f]/\SqT K H q (e.1.map fI)/\SqT K H f [.int e.2.1, .int e.2.2]:=by
 obtain⟨row,b,hr,rfl,q,f,h1,h2,h3⟩:=aJC (show RG (Pt K H) ys (aCR W) from h) hx
 unfold aCR at hr
 rw[cf] at hr
 cases he:W[i]? with
 | none=>rw[he] at hr;cases hr
 | some e=>
  rw[he] at hr
  obtain rfl:(e.1.map Int.ofNat,e.2)=row:=bf hr
  exact ⟨e,b,q,f,rfl,rfl,h1,by rw[iV];exact h2,h3⟩
def aJP (K:aa):Sp:=fun vs H Q _=>∃ (l:Addr) (ys:List V) (W:Cts) (i j:Nat) (D:Int),vs=[.ref l, .int (i:Int), .int (j:Int)]/\H l=some (.lst ys)/\rK K H ys (aCR W)/\W.length<=60/\OkD D (W.map (·.2))/\0<D/\D.natAbs<2 ^ 2000 /\
 ∀ p H',Same H H'->H' p=some (.tup [.int (lo (jN D (aCt i j W)) D).1, .int (lo (jN D (aCt i j W)) D).2])->Q (.ref p) H'
theorem aLc:∀ vs H Q E,aJP K vs H Q E->zP K (aHE K) (yQ K) { nx:=fun _ H'=>Q .non H',rt:=Q } (bD ["some","i","j"] vs) H:=by
 intro vs H Q E h
 obtain⟨l,ys,W,a,b,D,rfl,hl,rW,z,okd,D0,Db,q⟩:=h
 have yl:ys.length=W.length:=by rw[rW.1];unfold aCR;rw[af]
 refine ⟨_,rfl,l,rfl, .inl ⟨⟨_, .of hl⟩,fun A hA=>?_⟩⟩
 refine cX (K:=K) (a:=l) (xs:=ys) (fun i σ' H'=>i<=ys.length/\Same H H'/\(∃ x0 x1,σ'=[x0,x1,some (.int (a:Int)),some (.int (b:Int))])/\∃ zs,H' A=some (.lst zs)/\Rows K H' zs (prI (aCt a b (W.take i)))) ⟨ay _,aG hA _,⟨_,_,rfl⟩,[],aD,Rows.nil⟩ (fun i σ1 H1 _ ⟨_,s1,_⟩ => .of (s1 _ _ hl)) (fun i x σ1 H1 hx ⟨_,s1,⟨x0,x1,es⟩,zs,hA1,r1⟩=>?_) fun σ1 H1 ⟨_,s1,_,zs,hA1,r1⟩=>?_
 ·subst es
  have hi:i<ys.length:=(ai.mp hx).1
  obtain⟨e,c,s,f,he,rfl,hb,hs,hf⟩:=zQ (K:=K) (H:=H1) (eN rW fun b e=>Pt.same s1) hx
  refine ⟨c,_,rfl,hb,rfl,_,_,rfl,_,_,rfl,rfl,?_⟩
  refine ⟨_,rfl,_,rfl,_,rfl,s,e.1,a,b,rfl,hs,_,rfl,?_⟩
  have e1:aCt a b (W.take (i+1))=aCt a b (W.take i)++if prt e.1 a b=true then [e.2] else []:=by
   unfold aCt
   rw[gx,he,j7,cz]
   congr 1
   exact aKZ (fun e:List Nat × (Int × Int)=>prt e.1 a b) (·.2) e
  refine pL (fun cp=>?_) fun cp=>?_
  ·rw[if_pos cp] at e1
   refine ⟨_,rfl,zs,hA1,bq (show zs.length<=100 by rw[r1.1];unfold prI aCt;rw[af,af];have:=dq (fun e:List Nat × (Int × Int)=>prt e.1 a b) (W.take i);rw[df] at this;omega) (by decide),hi,eJ hA s1,⟨_,_,rfl⟩,_,aD,?_⟩
   rw[e1,oO]
   exact Rows.put (Rows.snoc r1 (b:=f) (r:=[e.2.1,e.2.2]) hf) hA1
  ·rw[if_neg cp,i4] at e1
   refine ⟨hi,s1,⟨_,_,rfl⟩,zs,hA1,?_⟩
   rw[e1]
   exact r1
 ·rw[yl,fq] at r1
  refine ⟨A,zs,aCt a b W,D,rfl,hA1,r1,vP okd fun e he=>?_,?_,D0,Db,fun p H2 s2 hp=>q p H2 (s1.trans s2) hp⟩
  ·obtain⟨x,hx,rfl⟩:=fh.mp he
   exact fh.mpr ⟨x,(i8.mp hx).1,rfl⟩
  ·unfold aCt
   rw[af]
   have:=dq (fun e:List Nat × (Int × Int)=>prt e.1 a b) W
   omega
end
section
variable {K:aa}
def frB (t b:Int):Bool:=decide (1<=b) && decide (gd t b=1)
theorem zZ {H:Hp}{f:Addr}{t b:Int}(h:Fr K H f t b):Sh K H (.tup [.int t, .int b]) (.ref f):=⟨f,_,rfl,h,ShL.ints [t,b]⟩
def aJn (K:aa):Sp:=fun vs H Q _=>∃ (f:Addr) (t b:Int),vs=[.ref f]/\Fr K H f t b/\∀ H',Same H H'->Q (.bl (frB t b)) H'
theorem aKj:∀ vs H Q E,aJn K vs H Q E->mK K (L.spWs K) aHF { nx:=fun _ H'=>Q .non H',rt:=Q } (bD ["thing","top","bottom"] vs) H:=by
 intro vs H Q E h
 obtain⟨f,t,b,rfl,hf,q⟩:=h
 refine ⟨_,rfl, .ref f, .tup [.int t, .int b],rfl,zZ hf,fun ds e=>by cases e;exact (show 2<=1000 by decide),fun H1 s1=>⟨_,rfl,cD rfl ?_⟩⟩
 have hf1:Fr K H1 f t b:=s1.tup hf
 refine ⟨_,rfl,f,_,rfl, .inr hf1, .int 2, .int 2,ay _,rfl,rfl,_,rfl,cD rfl ?_⟩
 refine ⟨_,rfl,f,_,rfl,hf1,rfl,_,_,rfl,_,_,rfl,rfl,?_⟩
 have q:=q H1 s1
 unfold frB at q
 refine ⟨_,rfl,_,_,rfl,rfl,_,rfl,pL (fun c=>?_) fun c=>?_⟩
 ·have c:decide ((1:Int)<=b)=true:=c
  rw[c,fm] at q
  refine ⟨_,rfl,_,rfl,t,b,rfl, .int _, .int 1,ay _,rfl,rfl,?_⟩
  rw[show eqD (.int (gd t b)) (.int 1)=decide (gd t b=1) by rw[eqD];rfl]
  exact q
 ·have c:decide ((1:Int)<=b)=false:=fc _ |>.mp c
  rw[c,gu] at q
  exact q
def Odd (K:aa) (H:Hp) (k:Nat) (x:V):Prop:=∃ d,Sh K H d x/\(aGg d "tuple" = false\/∃ ds,d = .tup ds/\ds.length≠k)
theorem Odd.same {H H':Hp}{k:Nat}{x:V}(s:Same H H')(h:Odd K H k x):Odd K H' k x:=let ⟨d,h1,h2⟩:=h;⟨d,h1.same s,h2⟩
def shB (n:Nat) (i j t z:Int):Bool:=decide (0<=i) && (decide (i<j) && (decide (j<(n:Int)) && (frB t z && decide (0<t))))
def aJM (K:aa):Sp:=fun vs H Q _=>∃ (n:Nat) (x:V),vs=[.int (n:Int),x]/\((Odd K H 3 x/\∀ H',Same H H'->Q (.bl false) H')\/∃ (b f:Addr) (i j t z:Int),x = .ref b/\SqT K H b [.int i, .int j, .ref f]/\Fr K H f t z/\∀ H',Same H H'->Q (.bl (shB n i j t z)) H')
theorem aGc {a b:Nat}(h:a≠b):(!eqD (.int (a:Int)) (.int (b:Int)))=true:=by rw[aFG,decide_eq_false h];rfl
theorem aKJ:∀ vs H Q E,aJM K vs H Q E->uK K (L.spWs K) (aJn K) { nx:=fun _ H'=>Q .non H',rt:=Q } (bD ["many","thing","i","j","share"] vs) H:=by
 intro vs H Q E h
 obtain⟨n,x,rfl,⟨⟨d,hd,od⟩,q⟩ | ⟨b,f,i,j,t,z,rfl,hb,hf,q⟩⟩:=h
 ·refine ⟨_,rfl,x,d,"tuple",rfl,by decide,hd,_,rfl,?_⟩
  rcases od with od | ⟨ds,rfl,hl⟩
  ·exact dJ (by rw[od];rfl) (dJ rfl (q H (Same.refl _)))
  ·obtain⟨a,xs,rfl,ha,hL⟩:=hd
   refine cD rfl ⟨_,rfl,a,xs,rfl, .inr ha, .int _, .int ((3:Nat):Int),ay _,rfl,rfl,_,rfl,dJ (aGc (by rw[<- hL.length];exact hl)) (dJ rfl (q H (Same.refl _)))⟩
 ·have hd:Sh K H (.tup [.int i, .int j, .tup [.int t, .int z]]) (.ref b):=⟨b,_,rfl,hb,_,_,rfl,rfl,_,_,rfl,rfl,_,_,rfl,zZ hf,rfl⟩
  refine ⟨_,rfl, .ref b,_,"tuple",rfl,by decide,hd,_,rfl,cD rfl ⟨_,rfl,b,_,rfl, .inr hb, .int 3, .int 3,ay _,rfl,rfl,_,rfl,cD rfl ⟨_,rfl,2,rfl, .inr ⟨b,_,rfl,hb,fun p H1 s1 hp=>?_⟩⟩⟩⟩
  have hp:SqT K H1 p [.int i, .int j]:=hp
  refine ⟨.ref p, .tup [.int i, .int j],rfl,⟨p,_,rfl,hp,ShL.ints [i,j]⟩,fun ds e=>by cases e;exact (show 2<=1000 by decide),fun H2 s2=>⟨_,rfl,cD rfl ?_⟩⟩
  have s12:=s1.trans s2
  refine ⟨_,rfl,b,_,rfl,s12.tup hb,rfl,_,_,rfl,_,_,rfl,_,_,rfl,rfl,?_⟩
  have q2:=q H2 s12
  unfold shB at q2
  refine ⟨_,rfl,_,_,rfl,rfl,_,rfl,pL (fun c=>?_) fun c=>?_⟩
  ·have c:decide ((0:Int)<=i)=true:=c
   rw[c,fm] at q2
   refine ⟨_,rfl,_,_,rfl,rfl,_,rfl,pL (fun c=>?_) fun c=>?_⟩
   ·have c:decide (i<j)=true:=c
    rw[c,fm] at q2
    refine ⟨_,rfl,_,_,rfl,rfl,_,rfl,pL (fun c=>?_) fun c=>?_⟩
    ·have c:decide (j<(n:Int))=true:=c
     rw[c,fm] at q2
     refine ⟨_,rfl,f,t,z,rfl,s12.tup hf,fun H3 s3=>⟨_,rfl,?_⟩⟩
     have q3:=q H3 (s12.trans s3)
     unfold shB at q3
     have c1:decide ((0:Int)<=i)=true:=by assumption
     rw[c1,‹decide (i<j)=true›,c,fm,fm,fm] at q3
     refine pL (fun c=>?_) fun c=>?_
     ·rw[c,fm] at q3
      exact ⟨_,rfl,ixT (j:=0) ((s12.trans s3).tup hf) rfl ⟨_,_,rfl,rfl,q3⟩⟩
     ·rw[fc _ |>.mp c,gu] at q3
      exact q3
    ·have c:decide (j<(n:Int))=false:=fc _ |>.mp c
     rw[c,gu] at q2
     exact q2
   ·have c:decide (i<j)=false:=fc _ |>.mp c
    rw[c,gu] at q2
    exact ⟨_,rfl,cD rfl q2⟩
  ·have c:decide ((0:Int)<=i)=false:=fc _ |>.mp c
   rw[c,gu] at q2
   exact ⟨_,rfl,cD rfl q2⟩
def ctB (s:List Nat) (t z:Int):Bool:=frB t z && (decide (0<t) || (decide (s.length=1) && decide (t<0)))
def aJH (K:aa):Sp:=fun vs H Q _=>∃ (n:Nat) (x:V),vs=[.int (n:Int),x]/\((Odd K H 2 x/\∀ H',Same H H'->Q (.bl false) H')\/∃ (b q f:Addr) (s:List Nat) (t z:Int),1<=n/\n<=6/\x = .ref b/\SqT K H b [.ref q, .ref f]/\SqT K H q (s.map fI)/\s∈fD n/\Fr K H f t z/\∀ H',Same H H'->Q (.bl (ctB s t z)) H')
theorem aKw:∀ vs H Q E,aJH K vs H Q E->aBI K (aHD K) (L.spWs K) (aJn K) { nx:=fun _ H'=>Q .non H',rt:=Q } (bD ["many","thing","cut","price"] vs) H:=by
 intro vs H Q E h
 obtain⟨n,x,rfl,⟨⟨d,hd,od⟩,q⟩ | ⟨b,p,f,s,t,z,n1,n6,rfl,hb,hp,hs,hf,q⟩⟩:=h
 ·refine ⟨_,rfl,x,d,"tuple",rfl,by decide,hd,_,rfl,?_⟩
  rcases od with od | ⟨ds,rfl,hl⟩
  ·exact dJ (by rw[od];rfl) (dJ rfl (q H (Same.refl _)))
  ·obtain⟨a,xs,rfl,ha,hL⟩:=hd
   refine cD rfl ⟨_,rfl,a,xs,rfl, .inr ha, .int _, .int ((2:Nat):Int),ay _,rfl,rfl,_,rfl,dJ (aGc (by rw[<- hL.length];exact hl)) (q H (Same.refl _))⟩
 ·have hp':Sh K H (.tup ((s.map Int.ofNat).map Dt.int)) (.ref p):=⟨p,_,rfl,by rw[<- iV];exact hp,ShL.ints _⟩
  have hd:Sh K H (.tup [.tup ((s.map Int.ofNat).map Dt.int), .tup [.int t, .int z]]) (.ref b):=⟨b,_,rfl,hb,_,_,rfl,hp',_,_,rfl,zZ hf,rfl⟩
  refine ⟨_,rfl, .ref b,_,"tuple",rfl,by decide,hd,_,rfl,cD rfl ⟨_,rfl,b,_,rfl, .inr hb, .int 2, .int 2,ay _,rfl,rfl,_,rfl,cD rfl ?_⟩⟩
  refine ⟨_,rfl,b,_,rfl,hb,rfl,_,_,rfl,_,_,rfl,rfl,?_⟩
  have sl:=(aAU hs).1
  refine ⟨_,rfl, .ref p,_,rfl,hp',fun ds e=>by cases e;rw[af,af];omega,fun H1 s1=>⟨_,rfl,cD ?_ ?_⟩⟩
  ·show (!(((s.map Int.ofNat).map Dt.int).all L.whD))=false
   rw[sa,show ((s.map Int.ofNat).all (L.whD∘Dt.int))=true from e9.mpr fun _ _=>rfl]
   rfl
  refine ⟨_,rfl,_,rfl,n,rfl,n1,n6,fun F ys H2 s2 _ hF rF=>?_⟩
  have s12:=s1.trans s2
  refine .inr ⟨p,F,s.map Int.ofNat,ys,nN (fD n),rfl,rfl,by rw[<- iV];exact s12.tup hp, .inl (.of hF),rF,_,rfl,cD ?_ ?_⟩
  ·show (!decide (s.map Int.ofNat∈nN (fD n)))=false
   rw[decide_eq_true (show s.map Int.ofNat∈nN (fD n) from fh.mpr ⟨s,hs,rfl⟩)]
   rfl
  refine ⟨_,rfl,f,t,z,rfl,s12.tup hf,fun H3 s3=>⟨_,rfl,?_⟩⟩
  have s13:=s12.trans s3
  have q:=q H3 s13
  unfold ctB at q
  cases c:frB t z with
  | false=>
   rw[c,gu] at q
   exact dJ rfl q
  | true=>
   rw[c,fm] at q
   refine cD rfl ⟨_,rfl,ixT (j:=0) (s13.tup hf) rfl ⟨_,_,rfl,rfl,_,rfl,pL (fun c=>?_) fun c=>?_⟩⟩
   ·have c:decide (0<t)=true:=c
    rw[c,yt] at q
    exact q
   ·have c:decide (0<t)=false:=fc _ |>.mp c
    rw[c,qe] at q
    refine ⟨_,rfl,p,_,rfl, .inr (s13.tup hp), .int (s.length:Int), .int ((1:Nat):Int),ay _,by rw[af];rfl,rfl,_,rfl,?_⟩
    rw[aFG]
    refine pL (fun c=>?_) fun c=>?_
    ·rw[c,fm] at q
     exact ⟨_,rfl,ixT (j:=0) (s13.tup hf) rfl ⟨_,_,rfl,rfl,q⟩⟩
    ·rw[fc _ |>.mp c,gu] at q
     exact q
def aHH (R:List (List Int)):List Bool:=(av (R.length - 1)).map fun i=>HT.lexLt (R.getD i []) (R.getD (i+1) [])
def aJe (K:aa):Sp:=fun vs H Q _=>∃ (l:Addr) (xs:List V) (R:List (List Int)),vs=[.ref l]/\H l=some (.lst xs)/\Rows K H xs R/\R.length<=100/\∀ H',Same H H'->Q (.bl ((aHH R).all id)) H'
theorem aKY:∀ vs H Q E,aJe K vs H Q E->yV K { nx:=fun _ H'=>Q .non H',rt:=Q } (bD ["some"] vs) H:=by
 intro vs H Q E h
 obtain⟨l,xs,R,rfl,hl,rR,z,q⟩:=h
 refine ⟨_,rfl,_,rfl,1,rfl, .inl ⟨l,xs,rfl, .of hl,fun p hp=>?_⟩⟩
 have ec:tJ xs (some 1) none=xs.drop 1:=by
  unfold tJ
  rw[show (some 1:Option Int)=some ((1:Nat):Int) from rfl,HT.sIx_nat,HT.sIx_none]
  by_cases c:xs.length=0
  ·rw[uv.mp c];rfl
  ·rw[show min 1 xs.length=1 by omega,vp (by rw[gv];omega)]
 rw[ec]
 have mp:=aG hp (.lst (xs.drop 1))
 have hp1:(upd H p (.lst (xs.drop 1))) p=some (.lst (xs.drop 1)):=aD
 generalize upd H p (.lst (xs.drop 1))=G at *
 have dl:(xs.drop 1).length=R.length - 1:=by rw[gv,rR.1]
 refine ⟨l,p,true,true,rfl,⟨_, .of (mp _ _ hl)⟩,⟨_, .of hp1⟩,fun A hA=>?_⟩
 refine wR (K:=K) (b1:=true) (b2:=true) (l1:=l) (l2:=p) (xs:=xs) (ys:=xs.drop 1) (by rw[gv];omega) (fun i σ' H'=>i<=R.length - 1/\Same G H'/\σ'.length=2/\H' A=some (.lst (((av i).map fun i=>HT.lexLt (R.getD i []) (R.getD (i+1) [])).map V.bl))) ⟨ay _,aG hA _,rfl,aD⟩ (fun i σ1 H1 _ ⟨_,s1,_⟩=>⟨.of (s1 _ _ (mp _ _ hl)), .of (s1 _ _ hp1)⟩) (fun i x y σ1 H1 t hx hy ht ⟨_,s1,l2,hA1⟩=>?_) fun σ1 H1 ⟨_,s1,_,hA1⟩=>?_
 ·have hi:i<R.length - 1:=by have:=(ai.mp hy).1;omega
  rw[j6] at hy
  have rG:=rR.same (mp.trans s1)
  obtain⟨b1,e1,g1⟩:=rG.2 i (R.getD i []) (by rw[ao,ah (show i<R.length by omega)];rfl)
  obtain⟨b2,e2,g2⟩:=rG.2 (i+1) (R.getD (i+1) []) (by rw[ao,ah (show i+1<R.length by omega)];rfl)
  rw[hx] at e1
  rw[show 1+i=i+1 by omega,e2] at hy
  obtain rfl:x = .ref b1:=bf e1
  obtain rfl:V.ref b2=y:=bf hy
  have mt:=aG ht (.tup [V.ref b1, .ref b2])
  obtain⟨x0,x1,rfl⟩:∃ x0 x1,σ1=[x0,x1]:=by
   match σ1,l2 with
   | [x0,x1],_=>exact ⟨x0,x1,rfl⟩
  refine ⟨t,_,rfl, .of aD,rfl,_,_,rfl,_,_,rfl,rfl,?_⟩
  refine ⟨_,rfl,_,rfl,b1,b2,_,_,rfl,rfl,mt.tup g1,mt.tup g2,_,mt _ _ hA1,?_,hi,eJ hA (s1.trans mt),rfl,?_⟩
  ·rw[af,af,dy]
   exact bq (show i<=100 by omega) (by decide)
  ·rw[aD,qq,cz,cz]
   rfl
 ·rw[dl] at hA1
  exact ⟨A,aHH R,rfl, .inl (.of hA1),q H1 (mp.trans s1)⟩
end
def aHG (D:Int) (L:Shs) (p:Nat):Bool:=decide ([(lo (jN D (xH [p] L)) D).1,(lo (jN D (xH [p] L)) D).2]=[(2:Int),1])
def aAx (D:Int) (L:Shs) (s:List Nat):Bool:=decide ((lo (jN D (xH s L)) D).1*1<2*(lo (jN D (xH s L)) D).2)
def wrS (T:List (List Int)) (L:Shs):Pr:=L.map fun e=>lo (e.2.1*at2 T e.1.1 e.1.2) (e.2.2*1)
def pr2 (L:Shs):List (List Int):=L.map fun e=>[(e.1.1:Int),(e.1.2:Int)]
def eqB (t a:Int × Int):Bool:=decide ([t.1,t.2]=[a.1,a.2])
def sU (T:List (List Int)) (n:Nat) (D:Int) (L:Shs) (a:Int × Int):Bool:=(aHH (pr2 L)).all id && (((av n).all (aHG D L)) && (!((fD n).any (aAx D L)) && eqB (lo (jN D (wrS T L)) D) a))
def Unf (C1 C2 C3:Addr) (T:List (List Int)) (n:Nat) (H:Hp) (E:XK) (ok:Prop):Prop:=
 ((jL T n).all id=false/\∀ H',Same H H'->E (.ref C1) none H')\/(Sy T n/\((n<3/\∀ H',Same H H'->E (.ref C2) none H')\/(6<n/\∀ H',Same H H'->E (.ref C3) none H')\/(3<=n/\n<=6/\ok)))
theorem aGf {D:Int}{y:Nat}:∀ {P:Pr},(∀ e∈P,(e.1*(D / e.2)).natAbs<=y)->(jN D P).natAbs<=P.length*y
 | [],_=>ay _
 | e :: P,h=>by
  have i1:=aGf (P:=P) fun x hx=>h x (bu _ hx)
  have i2:=h e (dh ..)
  have i3:=Int.natAbs_add_le (e.1*(D / e.2)) (jN D P)
  show (e.1*(D / e.2)+jN D P).natAbs<=_
  rw[dm,zh,Nat.one_mul]
  omega
theorem aLN (k:Nat):100*2 ^ k<2 ^ (7+k):=by
 rw[Nat.pow_add]
 exact Nat.mul_lt_mul_of_pos_right (by decide) (Nat.pow_pos (by decide))
theorem vB {D:Int}{P:Pr}{a b:Nat}(D0:0<D)(Db:D.natAbs<2 ^ b)(h:∀ e∈P,0<e.2/\e.1.natAbs<2 ^ a)(hl:P.length<=100):(jN D P).natAbs<2 ^ (7+(a+b)):=
 bq (aGf fun e he=>gy (aBB (h e he).2 (sS (h e he).1 D0 Db))) (bq (w9 _ hl) (aLN (a+b)))
theorem zU {D:Int}{P:Pr}(D0:0<D)(Db:D.natAbs<2 ^ 2000)(h:OkD D P)(hl:P.length<=100):(jN D P).natAbs<2 ^ (7+(2000+2000)):=vB D0 Db (fun e he=>⟨(h e he).1,(h e he).2.2⟩) hl
theorem aBS {i j:Int}(h:0<j):0<(lo i j).2:=(rQ (i:=i) h).2.2.1
theorem mU {i j:Int}{k:Nat}(h:0<j)(hi:i.natAbs<2 ^ k):(lo i j).1.natAbs<2 ^ k:=aHL h hi
theorem aEk {i j:Int}(h:0<j):(lo i j).2 ∣ j:=⟨gd i j,by have:=(rQ (i:=i) h).2.1;rw[ez];exact this⟩
theorem rJ {i j:Int}{k:Nat}(h:0<j)(hj:j.natAbs<2 ^ k):(lo i j).2.natAbs<2 ^ k:=iM (aBS h) h (aEk h) hj
theorem up8 {x:Int}{k:Nat}(h:x.natAbs<2 ^ k)(hk:k<=8000):x.natAbs<2 ^ 8000:=aw h (cg (by decide) hk)
section
variable {K:aa}
def aDQ (K : aa) (C1 C2 C3 : Addr) : Sp := fun vs H Q E => ∃ (v x y : V) (T : List (List Int)) (n : Nat), vs = [v, x, y] /\ Sh K H (pY T) v /\ Quad T n /\ 1 <= n /\ n <= 8 /\ Unf C1 C2 C3 T n H E (∃ (l w : Addr) (a : Int × Int) (ys : List V), x = .ref l /\ y = .ref w /\ Bs T n /\ Fr K H w a.1 a.2 /\ H l = some (.lst ys) /\
  ((∃ x, ys = [x] /\ (Odd K H 3 x \/ ∃ (b f : Addr) (i j t z : Int), x = .ref b /\ SqT K H b [.int i, .int j, .ref f] /\ Fr K H f t z /\ shB n i j t z = false) /\ ∀ H', Same H H' -> Q (.bl false) H') \/
   ∃ (L : Shs) (D : Int), aEA K H ys (aAp L) /\ L.length <= 60 /\ (∀ e ∈ L, shB n e.1.1 e.1.2 e.2.1 e.2.2 = true /\ e.1.1 < n /\ e.1.2 < n) /\ OkD D (L.map (·.2)) /\ (∀ e ∈ L, e.2.1.natAbs < 2 ^ 1000) /\ 0 < D /\ D.natAbs < 2 ^ 2000 /\ ∀ H', Same H H' -> Q (.bl (sU T n D L a)) H'))
theorem aGm {α β:Type}(L:List α)(d:α)(f:α->β):L.map f=(av L.length).map fun i=>f (L.getD i d):=by
 apply pw
 ·simp
 ·intro i h1 h2
  rw[jy,jy,n4,ao,ah (by simpa using h1)]
  rfl
theorem qH {α β:Type}{L:List α}{i:Nat}{e:α}(f:α->β)(h:L[i]?=some e):(L.take (i+1)).map f=(L.take i).map f++[f e]:=by
 rw[gx,h,cz]
 rfl
theorem aHK {C1 C2 C3 C2':Addr}(hT2:∀ H:Hp,Fr K H C2' 2 1):∀ vs H Q E,aDQ K C1 C2 C3 vs H Q E->pB K C2' E (aHD K) (aJe K) (aIF K) (aJM K) (aJK K) (aDB K) (yQ K) (aHC K C1 C2 C3) { nx:=fun _ H'=>Q .non H',rt:=Q } (bD ["table","some","worth","many"] vs) H:=by
 intro vs H Q E h
 obtain⟨v,x,y,T,n,rfl,hT,qT,n1,n8,q⟩:=h
 refine ⟨_,rfl,v,T,n,rfl,hT,qT,n1,n8,?_⟩
 rcases q with q | ⟨sy,q | q | ⟨n3,n6,l,w,a,ys,rfl,rfl,bT,hw,hl,q⟩⟩
 ·exact .inl q
 ·exact .inr ⟨sy, .inl q⟩
 ·exact .inr ⟨sy, .inr (.inl q)⟩
 refine .inr ⟨sy, .inr (.inr ⟨n3,n6,fun H1 s1=>?_⟩)⟩
 obtain⟨ta,rs,rfl,ha,hrl,_⟩:=id hT.tab
 have hrl:rs.length=n:=hrl.trans qT.len
 refine ⟨_,rfl,ta,rs,rfl, .inr (s1.tup ha),?_⟩
 rw[hrl]
 refine ⟨_,rfl,l,rfl, .inl ⟨⟨_, .of (s1 _ _ hl)⟩,fun A hA=>?_⟩⟩
 have hv:∀ H',SameX A (upd H1 A (.lst [])) H'->Same H1 H':=fun H' sx=>cT hA sx
 rcases q with ⟨x,rfl,od,q⟩ | ⟨L,D,rL,z,okL,okd,tb,D0,Db,q⟩
 ·refine cA [0] ([false].map V.bl) hA (by decide) (gF (K:=K) (a:=l) (xs:=[x]) (j:=0) (L:=fun _=>[V.bl false]) (by decide) (by show 0<2;decide) (fun H' sx => .of (hv H' sx _ _ (s1 _ _ hl))) fun i x' σ2 H2 hx l2 ag2 t0 sx2 _=>?_) fun σ2 H2 s2 hA2=>⟨A,[false],rfl, .inl (.of hA2),_,rfl,dJ rfl (dJ rfl (q H2 (s1.trans s2)))⟩
  have t1:σ2[1]?=some (some (.int (n:Int))):=(ag2 1 (by decide)).trans rfl
  obtain rfl:x=x':=by
   match i,hx with
   | 0,hx=>exact bf hx
  refine dA fun R hR=>⟨_,t1,_,t0,n,x,rfl,?_⟩
  rcases od with od | ⟨b,f,i,j,t,z,rfl,hb,hf,hB⟩
  ·exact .inl ⟨od.same (s1.trans (hv _ sx2)),hR⟩
  ·refine .inr ⟨b,f,i,j,t,z,rfl,(s1.trans (hv _ sx2)).tup hb,(s1.trans (hv _ sx2)).tup hf,?_⟩
   rw[hB]
   exact hR
 have yl:ys.length=L.length:=by rw[rL.1];unfold aAp;rw[af]
 refine cA [0] (((av ys.length).map fun _=>true).map V.bl) hA (by rw[af,af,dy];omega) (Emits.cast (gF (K:=K) (a:=l) (xs:=ys) (j:=0) (L:=fun _=>[V.bl true]) (by decide) (by show 0<2;decide) (fun H' sx => .of (hv H' sx _ _ (s1 _ _ hl))) fun i x' σ2 H2 hx l2 ag2 t0 sx2 _=>?_) (by rw[qA,gz];rfl)) fun σ2 H2 s2 hA2=>?_
 ·have t1:σ2[1]?=some (some (.int (n:Int))):=(ag2 1 (by decide)).trans rfl
  obtain⟨e,b,f,he,rfl,hb,hf⟩:=wP (K:=K) (H:=H2) (eN rL fun b e=>Tri.same (s1.trans (hv _ sx2))) hx
  have:=okL e (bt he)
  refine dA fun R hR=>⟨_,t1,_,t0,n,_,rfl, .inr ⟨b,f,e.1.1,e.1.2,e.2.1,e.2.2,rfl,hb,hf,?_⟩⟩
  rw[this.1]
  exact hR
 refine ⟨A,(av ys.length).map fun _=>true,rfl, .inl (.of hA2),_,rfl,cD ?_ ?_⟩
 ·show (!(((av ys.length).map fun _=>true).all id))=false
  rw[show (((av ys.length).map fun _=>true).all id)=true from e9.mpr fun b hb=>by obtain⟨_,_,rfl⟩:=fh.mp hb;rfl]
  rfl
 have s12:=s1.trans s2
 refine ⟨_,rfl,l,rfl, .inl ⟨⟨_, .of (s12 _ _ hl)⟩,fun B hB=>?_⟩⟩
 refine cX (K:=K) (a:=l) (xs:=ys) (fun i σ' H'=>i<=ys.length/\Same H2 H'/\(∃ x0,σ'=[x0])/\∃ zs,H' B=some (.lst zs)/\Rows K H' zs (pr2 (L.take i))) ⟨ay _,aG hB _,⟨_,rfl⟩,[],aD,Rows.nil⟩ (fun i σ3 H3 _ ⟨_,s3,_⟩ => .of (s3 _ _ (s12 _ _ hl))) (fun i x' σ3 H3 hx ⟨_,s3,⟨x0,es⟩,zs,hB3,r3⟩=>?_) fun σ3 H3 ⟨_,s3,_,zs,hB3,r3⟩=>?_
 ·subst es
  have hi:i<ys.length:=(ai.mp hx).1
  obtain⟨e,b,f,he,rfl,hb,hf⟩:=wP (K:=K) (H:=H3) (eN rL fun b e=>Tri.same (s12.trans s3)) hx
  refine ⟨_,rfl,2,rfl, .inr ⟨b,_,rfl,hb,fun p H4 s4 hp=>?_⟩⟩
  have hB4:=s4 _ _ hB3
  refine ⟨zs,hB4,bq (show zs.length<=100 by rw[r3.1];unfold pr2;rw[af,df];omega) (by decide),hi,eJ hB (s3.trans s4),⟨_,rfl⟩,_,aD,?_⟩
  unfold pr2 at r3 ⊢
  rw[qH _ he]
  exact Rows.put (Rows.snoc (r3.same s4) (b:=p) (r:=[(e.1.1:Int),(e.1.2:Int)]) hp) hB4
 rw[yl,fq] at r3
 have s13:=s12.trans s3
 refine ⟨B,zs,pr2 L,rfl,hB3,r3,by unfold pr2;rw[af];omega,fun H4 s4=>⟨_,rfl,?_⟩⟩
 have s14:=s13.trans s4
 have q4:=q
 cases c1:(aHH (pr2 L)).all id with
 | false=>
  refine dJ rfl ?_
  have:=q4 H4 s14
  unfold sU at this
  rw[c1,gu] at this
  exact this
 | true=>
 refine cD rfl ⟨_,rfl,(n:Int),rfl,by omega,by omega,fun A4 hA4=>?_⟩
 rw[bz]
 have hv4:∀ H',SameX A4 (upd H4 A4 (.lst [])) H'->Same H4 H':=fun H' sx=>cT hA4 sx
 refine cA [0] (((av n).map (aHG D L)).map V.bl) hA4 (by rw[af,af,dy];omega) (Emits.cast (kQ (n:=n) (lo:=0) (j:=0) (L:=fun i=>[V.bl (aHG D L i)]) (by decide) (by show 0<2;decide) fun i σ5 H5 hi l5 ag5 t0 sx5 _=>?_) (by rw[qA,gz];rfl)) fun σ5 H5 s5 hA5=>?_
 ·have t1:σ5[1]?=some (some (.ref l)):=(ag5 1 (by decide)).trans rfl
  rw[jn] at t0
  refine dA fun R hR=>⟨_,t1,_,t0,show 1<=ba by decide,fun c hc=>?_⟩
  have mc:=aG hc (.tup [V.int (i:Int)])
  have sA:=(s14.trans (hv4 _ sx5)).trans mc
  refine ⟨l,c,ys,L,[i],D,rfl,sA _ _ hl,eN rL fun b e=>Tri.same sA,z, .of aD,okd,D0,Db,fun p H6 s6 hp=>?_⟩
  refine ⟨.tup ([(lo (jN D (xH [i] L)) D).1,(lo (jN D (xH [i] L)) D).2].map Dt.int), .tup ([(2:Int),1].map Dt.int),gT _,⟨p,_,rfl, .of hp,ShL.ints [(lo (jN D (xH [i] L)) D).1,(lo (jN D (xH [i] L)) D).2]⟩,⟨C2',_,rfl,hT2 H6,ShL.ints [(2:Int),1]⟩,?_⟩
  rw[sX]
  exact hR _ (mc.trans s6)
 have s15:=s14.trans s5
 refine ⟨A4,(av n).map (aHG D L),rfl, .inl (.of hA5),_,rfl,?_⟩
 rw[sa]
 show if (!((av n).all (aHG D L)))=true then _ else _
 cases c2:(av n).all (aHG D L) with
 | false=>
  refine dJ rfl ?_
  have:=q4 H5 s15
  unfold sU at this
  rw[c1,c2,fm,gu] at this
  exact this
 | true=>
 refine cD rfl ⟨_,rfl,n,rfl,n1,n6,fun F6 us H6 s6 _ hF6 r6=>⟨F6,rfl, .inl ⟨⟨_, .of hF6⟩,fun A6 hA6=>?_⟩⟩⟩
 have ul:us.length=(fD n).length:=by rw[r6.1,jJ]
 have s16:=s15.trans s6
 have hv6:∀ H',SameX A6 (upd H6 A6 (.lst [])) H'->Same H6 H':=fun H' sx=>cT hA6 sx
 refine cA [0] (((fD n).map (aAx D L)).map V.bl) hA6 (by rw[af,af];have:=vV n6;omega) (Emits.cast (gF (K:=K) (a:=F6) (xs:=us) (j:=0) (L:=fun i=>[V.bl (aAx D L ((fD n).getD i []))]) (by decide) (by show 0<2;decide) (fun H' sx => .of (hv6 H' sx _ _ hF6)) fun i x' σ7 H7 hx l7 ag7 t0 sx7 _=>?_) (by rw[qA,gz,ul];exact (aGm (fD n) [] (fun s=>V.bl (aAx D L s))).symm)) fun σ7 H7 s7 hA7=>?_
 ·have t1:σ7[1]?=some (some (.ref l)):=(ag7 1 (by decide)).trans rfl
  obtain⟨s,b,hs,rfl,hb⟩:=xD (r6.same (hv6 _ sx7)) hx
  rw[fT hs]
  have sA:=s16.trans (hv6 _ sx7)
  refine dA fun R hR=>⟨_,t1,_,t0,l,b,ys,L,s,D,rfl,sA _ _ hl,eN rL fun b e=>Tri.same sA,z,hb,okd,D0,Db,fun p H8 s8 hp=>?_⟩
  have ok2:OkD D (xH s L):=vP okd fun e he=>by
   obtain⟨x,hx,rfl⟩:=fh.mp he
   exact fh.mpr ⟨x,(i8.mp hx).1,rfl⟩
  have sb:=zU D0 Db ok2 (by unfold xH;rw[af];have:=dq (fun e:(Nat × Nat) × (Int × Int)=>prt s e.1.1 e.1.2) L;omega)
  exact ⟨p,C2',_,_,2,1,rfl, .of hp,hT2 H8,up8 (mU D0 sb) (by decide),up8 (rJ D0 Db) (by decide),up8 (k:=2) (by decide) (by decide),up8 (k:=2) (by decide) (by decide),hR _ s8⟩
 have s17:=s16.trans s7
 refine ⟨A6,(fD n).map (aAx D L),rfl, .inl (.of hA7),_,rfl,?_⟩
 rw[wc]
 show if ((fD n).any (aAx D L))=true then _ else _
 cases c3:(fD n).any (aAx D L) with
 | true=>
  refine dJ rfl ?_
  have:=q4 H7 s17
  unfold sU at this
  rw[c1,c2,c3,fm,fm] at this
  exact this
 | false=>
 refine cD rfl ⟨_,rfl,l,rfl, .inl ⟨⟨_, .of (s17 _ _ hl)⟩,fun B8 hB8=>?_⟩⟩
 refine cX (K:=K) (a:=l) (xs:=ys) (fun i σ' H'=>i<=ys.length/\Same H7 H'/\(∃ x0 x1 x2,σ'=[x0,x1,x2,some (.ref ta)])/\∃ zs,H' B8=some (.lst zs)/\Rows K H' zs (prI (wrS T (L.take i)))) ⟨ay _,aG hB8 _,⟨_,_,_,rfl⟩,[],aD,Rows.nil⟩ (fun i σ8 H8 _ ⟨_,s8,_⟩ => .of (s8 _ _ (s17 _ _ hl))) (fun i x' σ8 H8 hx ⟨_,s8,⟨x0,x1,x2,es⟩,us2,hB9,r9⟩=>?_) fun σ8 H8 ⟨_,s8,_,us2,hB9,r9⟩=>?_
 ·subst es
  have hi:i<ys.length:=(ai.mp hx).1
  obtain⟨e,b,f,he,rfl,hb,hf⟩:=wP (K:=K) (H:=H8) (eN rL fun b e=>Tri.same (s17.trans s8)) hx
  obtain⟨_,g1,g2⟩:=okL e (bt he)
  refine ⟨b,_,rfl,hb,rfl,_,_,rfl,_,_,rfl,_,_,rfl,rfl,?_⟩
  refine ⟨_,rfl,sP (t:=3) (si:=0) (sj:=1) (i:=e.1.1) (j:=e.1.2) rfl rfl rfl (hT.same (s17.trans s8)) qT g1 g2 ⟨show 2<=ba by decide,fun u hu=>?_⟩⟩
  have mu:=aG hu (.tup [V.int (at2 T e.1.1 e.1.2), .int 1])
  obtain⟨e0,ed,_⟩:=okd e.2 (fh.mpr ⟨e,bt he,rfl⟩)
  have wb:=bT _ _ g1 g2
  refine ⟨f,u,e.2.1,e.2.2,at2 T e.1.1 e.1.2,1,rfl,mu.tup hf, .of aD,aw (tb e (bt he)) (cg (by decide) (by decide)),iM e0 D0 ed Db,aw (show (at2 T e.1.1 e.1.2).natAbs<2 ^ 20 by omega) (cg (by decide) (by decide)),aw (show (1:Int).natAbs<2 ^ 1 by decide) (cg (by decide) (by decide)),e0,by decide,fun p H9 s9 hp=>?_⟩
  have s10:=mu.trans s9
  have hB10:=s10 _ _ hB9
  refine ⟨us2,hB10,bq (show us2.length<=100 by rw[r9.1];unfold prI wrS;rw[af,af,df];omega) (by decide),hi,eJ hB8 (s8.trans s10),⟨_,_,_,rfl⟩,_,aD,?_⟩
  unfold wrS at r9 ⊢
  rw[qH _ he,oO]
  exact Rows.put (Rows.snoc (r9.same s10) (b:=p) (r:=[_,_]) (.of hp)) hB10
 rw[yl,fq] at r9
 have okw:OkD D (wrS T L):=fun x hx=>by
  obtain⟨e,he,rfl⟩:=fh.mp hx
  obtain⟨e0,ed,_⟩:=okd e.2 (fh.mpr ⟨e,he,rfl⟩)
  obtain⟨_,g1,g2⟩:=okL e he
  have wb:=bT _ _ g1 g2
  rw[ot]
  refine ⟨aBS e0,Int.dvd_trans (aEk e0) ed,mU e0 (aw (aBB (tb e he) (show (at2 T e.1.1 e.1.2).natAbs<2 ^ 20 by omega)) (cg (by decide) (by decide)))⟩
 refine ⟨B8,us2,wrS T L,D,rfl,hB9,r9,okw,by unfold wrS;rw[af];omega,D0,Db,fun p H9 s9 hp=>⟨_,rfl,?_⟩⟩
 have s18:=(s17.trans s8).trans s9
 refine ⟨.tup ([(lo (jN D (wrS T L)) D).1,(lo (jN D (wrS T L)) D).2].map Dt.int), .tup ([a.1,a.2].map Dt.int),gT _,⟨p,_,rfl, .of hp,ShL.ints [(lo (jN D (wrS T L)) D).1,(lo (jN D (wrS T L)) D).2]⟩,⟨w,_,rfl,s18.tup hw,ShL.ints [a.1,a.2]⟩,?_⟩
 rw[sX]
 have:=q4 H9 s18
 unfold sU at this
 rw[c1,c2,c3,fm,fm] at this
 exact this
end
def aGB (T:List (List Int)) (D:Int) (W:Cts) (e:Nat × Nat):Bool:=decide (at2 T e.1 e.2*(lo (jN D (aCt e.1 e.2 W)) D).2<(lo (jN D (aCt e.1 e.2 W)) D).1*1)
def aIz (D:Int) (W:Cts):Int × Int:=lo (2*(lo (jN D (W.map (·.2))) D).1) (1*(lo (jN D (W.map (·.2))) D).2)
def aFC (T:List (List Int)) (n:Nat) (D:Int) (W:Cts) (a:Int × Int):Bool:=(aHH (nN (W.map (·.1)))).all id && (!((dS n).any (aGB T D W)) && eqB (aIz D W) a)
section
variable {K:aa}
def aDn (K : aa) (C1 C2 C3 : Addr) : Sp := fun vs H Q E => ∃ (v x y : V) (T : List (List Int)) (n : Nat), vs = [v, x, y] /\ Sh K H (pY T) v /\ Quad T n /\ 1 <= n /\ n <= 8 /\ Unf C1 C2 C3 T n H E (∃ (l w : Addr) (a : Int × Int) (ys : List V), x = .ref l /\ y = .ref w /\ Bs T n /\ Fr K H w a.1 a.2 /\ H l = some (.lst ys) /\
  ((∃ x, ys = [x] /\ Odd K H 2 x /\ ∀ H', Same H H' -> Q (.bl false) H') \/
   ∃ (W : Cts) (D : Int), rK K H ys (aCR W) /\ W.length <= 60 /\ (∀ e ∈ W, e.1 ∈ fD n /\ ctB e.1 e.2.1 e.2.2 = true) /\ OkD D (W.map (·.2)) /\ 0 < D /\ D.natAbs < 2 ^ 1000 /\ (∀ e ∈ W, e.2.1.natAbs < 2 ^ 900) /\ ∀ H', Same H H' -> Q (.bl (aFC T n D W a)) H'))
theorem aIi {C1 C2 C3 C2':Addr}(hT2:∀ H:Hp,Fr K H C2' 2 1):∀ vs H Q E,aDn K C1 C2 C3 vs H Q E->uH K C2' E (aIP K) (aJP K) (aJe K) (aJH K) (aIF K) (aDB K) (yQ K) (aHC K C1 C2 C3) { nx:=fun _ H'=>Q .non H',rt:=Q } (bD ["table","some","worth","many"] vs) H:=by
 intro vs H Q E h
 obtain⟨v,x,y,T,n,rfl,hT,qT,n1,n8,q⟩:=h
 refine ⟨_,rfl,v,T,n,rfl,hT,qT,n1,n8,?_⟩
 rcases q with q | ⟨sy,q | q | ⟨n3,n6,l,w,a,ys,rfl,rfl,bT,hw,hl,q⟩⟩
 ·exact .inl q
 ·exact .inr ⟨sy, .inl q⟩
 ·exact .inr ⟨sy, .inr (.inl q)⟩
 refine .inr ⟨sy, .inr (.inr ⟨n3,n6,fun H1 s1=>?_⟩)⟩
 obtain⟨ta,rs,rfl,ha,hrl,_⟩:=id hT.tab
 have hrl:rs.length=n:=hrl.trans qT.len
 refine ⟨_,rfl,ta,rs,rfl, .inr (s1.tup ha),?_⟩
 rw[hrl]
 refine ⟨_,rfl,l,rfl, .inl ⟨⟨_, .of (s1 _ _ hl)⟩,fun A hA=>?_⟩⟩
 have hv:∀ H',SameX A (upd H1 A (.lst [])) H'->Same H1 H':=fun H' sx=>cT hA sx
 rcases q with ⟨x,rfl,od,q⟩ | ⟨W,D,rW,z,okW,okd,D0,Db,tb,q⟩
 ·refine cA [0] ([false].map V.bl) hA (by decide) (gF (K:=K) (a:=l) (xs:=[x]) (j:=0) (L:=fun _=>[V.bl false]) (by decide) (by show 0<2;decide) (fun H' sx => .of (hv H' sx _ _ (s1 _ _ hl))) fun i x' σ2 H2 hx l2 ag2 t0 sx2 _=>?_) fun σ2 H2 s2 hA2=>⟨A,[false],rfl, .inl (.of hA2),_,rfl,dJ rfl (dJ rfl (q H2 (s1.trans s2)))⟩
  have t1:σ2[1]?=some (some (.int (n:Int))):=(ag2 1 (by decide)).trans rfl
  obtain rfl:x=x':=by
   match i,hx with
   | 0,hx=>exact bf hx
  exact dA fun R hR=>⟨_,t1,_,t0,n,x,rfl, .inl ⟨od.same (s1.trans (hv _ sx2)),hR⟩⟩
 have D2:D.natAbs<2 ^ 2000:=aw Db (cg (by decide) (by decide))
 have yl:ys.length=W.length:=by rw[rW.1];unfold aCR;rw[af]
 refine cA [0] (((av ys.length).map fun _=>true).map V.bl) hA (by rw[af,af,dy];omega) (Emits.cast (gF (K:=K) (a:=l) (xs:=ys) (j:=0) (L:=fun _=>[V.bl true]) (by decide) (by show 0<2;decide) (fun H' sx => .of (hv H' sx _ _ (s1 _ _ hl))) fun i x' σ2 H2 hx l2 ag2 t0 sx2 _=>?_) (by rw[qA,gz];rfl)) fun σ2 H2 s2 hA2=>?_
 ·have t1:σ2[1]?=some (some (.int (n:Int))):=(ag2 1 (by decide)).trans rfl
  obtain⟨e,b,c,f,he,rfl,hb,hc,hf⟩:=zQ (K:=K) (H:=H2) (eN rW fun b e=>Pt.same (s1.trans (hv _ sx2))) hx
  have:=okW e (bt he)
  refine dA fun R hR=>⟨_,t1,_,t0,n,_,rfl, .inr ⟨b,c,f,e.1,e.2.1,e.2.2,n1,n6,rfl,hb,hc,this.1,hf,?_⟩⟩
  rw[this.2]
  exact hR
 refine ⟨A,(av ys.length).map fun _=>true,rfl, .inl (.of hA2),_,rfl,cD ?_ ?_⟩
 ·show (!(((av ys.length).map fun _=>true).all id))=false
  rw[show (((av ys.length).map fun _=>true).all id)=true from e9.mpr fun b hb=>by obtain⟨_,_,rfl⟩:=fh.mp hb;rfl]
  rfl
 have s12:=s1.trans s2
 refine ⟨_,rfl,l,rfl, .inl ⟨⟨_, .of (s12 _ _ hl)⟩,fun B hB=>?_⟩⟩
 refine cX (K:=K) (a:=l) (xs:=ys) (fun i σ' H'=>i<=ys.length/\Same H2 H'/\(∃ x0,σ'=[x0])/\∃ zs,H' B=some (.lst zs)/\Rows K H' zs (nN ((W.take i).map (·.1)))) ⟨ay _,aG hB _,⟨_,rfl⟩,[],aD,Rows.nil⟩ (fun i σ3 H3 _ ⟨_,s3,_⟩ => .of (s3 _ _ (s12 _ _ hl))) (fun i x' σ3 H3 hx ⟨_,s3,⟨x0,es⟩,zs,hB3,r3⟩=>?_) fun σ3 H3 ⟨_,s3,_,zs,hB3,r3⟩=>?_
 ·subst es
  have hi:i<ys.length:=(ai.mp hx).1
  obtain⟨e,b,c,f,he,rfl,hb,hc,hf⟩:=zQ (K:=K) (H:=H3) (eN rW fun b e=>Pt.same (s12.trans s3)) hx
  refine ⟨_,rfl,ixT (j:=0) hb rfl ⟨zs,hB3,bq (show zs.length<=100 by rw[r3.1,jJ,af,df];omega) (by decide),hi,eJ hB s3,⟨_,rfl⟩,_,aD,?_⟩⟩
  rw[qH _ he]
  have:nN ((W.take i).map (·.1)++[e.1])=nN ((W.take i).map (·.1))++[e.1.map Int.ofNat]:=by unfold nN;rw[cz];rfl
  rw[this]
  exact Rows.put (Rows.snoc r3 (b:=c) (by rw[<- iV];exact hc)) hB3
 rw[yl,fq] at r3
 have s13:=s12.trans s3
 refine ⟨B,zs,nN (W.map (·.1)),rfl,hB3,r3,by rw[jJ,af];omega,fun H4 s4=>⟨_,rfl,?_⟩⟩
 have s14:=s13.trans s4
 cases c1:(aHH (nN (W.map (·.1)))).all id with
 | false=>
  refine dJ rfl ?_
  have:=q H4 s14
  unfold aFC at this
  rw[c1,gu] at this
  exact this
 | true=>
 refine cD rfl ⟨_,rfl,n,rfl,n8,fun F6 us H6 s6 _ hF6 r6=>⟨F6,rfl, .inl ⟨⟨_, .of hF6⟩,fun A6 hA6=>?_⟩⟩⟩
 have ul:us.length=(dS n).length:=by rw[r6.1,lP]
 have s16:=s14.trans s6
 have hv6:∀ H',SameX A6 (upd H6 A6 (.lst [])) H'->Same H6 H':=fun H' sx=>cT hA6 sx
 have pij:=(rD n3 n6).2.2.2.1
 refine cA [0,1] (((dS n).map (aGB T D W)).map V.bl) hA6 (by rw[af,af];have:=yC n8;omega) (Emits.cast (oK (K:=K) (a:=F6) (xs:=us) (L:=fun i=>[V.bl (aGB T D W ((dS n).getD i (0,0)))]) (fun H' sx => .of (hv6 H' sx _ _ hF6)) fun i x' σ7 H7 hx l7 ag7 sx7=>?_) (by rw[qA,gz,ul];exact (aGm (dS n) (0,0) (fun e=>V.bl (aGB T D W e))).symm)) fun σ7 H7 s7 hA7=>?_
 ·obtain⟨e,b,he,rfl,hb⟩:=yT (r6.same (hv6 _ sx7)) hx
  rw[fT he]
  obtain⟨g1,g2⟩:=pij e (bt he)
  have l4:σ7.length=4:=l7
  refine ⟨(σ7.set 0 (some (fI e.1))).set 1 (some (fI e.2)),by rw[cv,cv];exact l7,(ag7.trans (Agree.set (by decide) _)).trans (Agree.set (by decide) _),fun Nn hN=>⟨b,_,rfl,hb,rfl,_,_,rfl,_,_,rfl,rfl,hN⟩,dA fun R hR=>?_⟩
  have t0:((σ7.set 0 (some (fI e.1))).set 1 (some (fI e.2)))[0]?=some (some (fI e.1)):=by rw[dn (by decide)];exact iJ (by omega)
  have t1:((σ7.set 0 (some (fI e.1))).set 1 (some (fI e.2)))[1]?=some (some (fI e.2)):=iJ (by rw[cv];omega)
  have tk:∀ k,2<=k->((σ7.set 0 (some (fI e.1))).set 1 (some (fI e.2)))[k]?=σ7[k]?:=fun k hk=>by rw[dn (by omega),dn (by omega)]
  have t2:=(tk 2 (by decide)).trans ((ag7 2 (by decide)).trans (show _=some (some (V.ref ta)) from rfl))
  have t3:=(tk 3 (by decide)).trans ((ag7 3 (by decide)).trans (show _=some (some (V.ref l)) from rfl))
  have sA:=s16.trans (hv6 _ sx7)
  refine sP (t:=2) (si:=0) (sj:=1) (i:=e.1) (j:=e.2) t2 t0 t1 (hT.same sA) qT (by omega) g2 ⟨show 2<=ba by decide,fun u hu=>?_⟩
  have mu:=aG hu (.tup [V.int (at2 T e.1 e.2), .int 1])
  have sB:=sA.trans mu
  refine ⟨_,t3,_,t0,_,t1,l,ys,W,e.1,e.2,D,rfl,sB _ _ hl,eN rW fun b e=>Pt.same sB,z,okd,D0,D2,fun p H8 s8 hp=>?_⟩
  have ok2:OkD D (aCt e.1 e.2 W):=vP okd fun x hx=>by
   obtain⟨x',hx',rfl⟩:=fh.mp hx
   exact fh.mpr ⟨x',(i8.mp hx').1,rfl⟩
  have sb:=zU D0 D2 ok2 (by unfold aCt;rw[af];have:=dq (fun x:List Nat × (Int × Int)=>prt x.1 e.1 e.2) W;omega)
  have wb:=bT e.1 e.2 (by omega) g2
  exact ⟨u,p,_,1,_,_,rfl,s8.tup (.of aD), .of hp,up8 (k:=20) (by omega) (by decide),up8 (k:=2) (by decide) (by decide),up8 (mU D0 sb) (by decide),up8 (rJ D0 D2) (by decide),hR _ (mu.trans s8)⟩
 have s17:=s16.trans s7
 refine ⟨A6,(dS n).map (aGB T D W),rfl, .inl (.of hA7),_,rfl,?_⟩
 rw[wc]
 show if ((dS n).any (aGB T D W))=true then _ else _
 cases c3:(dS n).any (aGB T D W) with
 | true=>
  refine dJ rfl ?_
  have:=q H7 s17
  unfold aFC at this
  rw[c1,c3,fm] at this
  exact this
 | false=>
 refine cD rfl ⟨_,rfl,l,rfl, .inl ⟨⟨_, .of (s17 _ _ hl)⟩,fun B8 hB8=>?_⟩⟩
 refine cX (K:=K) (a:=l) (xs:=ys) (fun i σ' H'=>i<=ys.length/\Same H7 H'/\(∃ x0 x1,σ'=[x0,x1])/\∃ zs,H' B8=some (.lst zs)/\Rows K H' zs (prI ((W.take i).map (·.2)))) ⟨ay _,aG hB8 _,⟨_,_,rfl⟩,[],aD,Rows.nil⟩ (fun i σ8 H8 _ ⟨_,s8,_⟩ => .of (s8 _ _ (s17 _ _ hl))) (fun i x' σ8 H8 hx ⟨_,s8,⟨x0,x1,es⟩,us2,hB9,r9⟩=>?_) fun σ8 H8 ⟨_,s8,_,us2,hB9,r9⟩=>?_
 ·subst es
  have hi:i<ys.length:=(ai.mp hx).1
  obtain⟨e,b,c,f,he,rfl,hb,hc,hf⟩:=zQ (K:=K) (H:=H8) (eN rW fun b e=>Pt.same (s17.trans s8)) hx
  refine ⟨b,_,rfl,hb,rfl,_,_,rfl,_,_,rfl,rfl,?_⟩
  refine ⟨_,rfl,us2,hB9,bq (show us2.length<=100 by rw[r9.1];unfold prI;rw[af,af,df];omega) (by decide),hi,eJ hB8 s8,⟨_,_,rfl⟩,_,aD,?_⟩
  rw[qH _ he,oO]
  exact Rows.put (Rows.snoc r9 (b:=f) (r:=[e.2.1,e.2.2]) hf) hB9
 rw[yl,fq] at r9
 refine ⟨B8,us2,W.map (·.2),D,rfl,hB9,r9,okd,by rw[af];omega,D0,D2,fun p H9 s9 hp=>?_⟩
 have s18:=(s17.trans s8).trans s9
 have sb:(jN D (W.map (·.2))).natAbs<2 ^ (7+(900+1000)):=vB D0 Db (fun x hx=>by
  obtain⟨e,he,rfl⟩:=fh.mp hx
  exact ⟨(okd e.2 hx).1,tb e he⟩) (by rw[af];omega)
 have t1:(lo (jN D (W.map (·.2))) D).1.natAbs<2 ^ 2000:=aw (mU D0 sb) (cg (by decide) (by decide))
 have two:∀ k:Nat,2<=k->(2:Int).natAbs<2 ^ k/\(1:Int).natAbs<2 ^ k:=fun k hk=>⟨aw (show 2<2 ^ 2 by decide) (cg (by decide) hk),aw (show 1<2 ^ 2 by decide) (cg (by decide) hk)⟩
 refine ⟨C2',p,2,1,_,_,rfl,hT2 H9, .of hp,(two 2000 (by decide)).1,(two 2000 (by decide)).2,t1,rJ D0 D2,by decide,aBS D0,fun p2 H10 s10 hp2=>⟨_,rfl,?_⟩⟩
 have s19:=s18.trans s10
 refine ⟨.tup ([(aIz D W).1,(aIz D W).2].map Dt.int), .tup ([a.1,a.2].map Dt.int),gT _,⟨p2,_,rfl, .of hp2,ShL.ints [(aIz D W).1,(aIz D W).2]⟩,⟨w,_,rfl,s19.tup hw,ShL.ints [a.1,a.2]⟩,?_⟩
 rw[sX]
 have:=q H10 s19
 unfold aFC at this
 rw[c1,c3,fm] at this
 exact this
end
def aFY (T:List (List Int)) (n:Nat) (h:Nat->Nat):Cts:=((av (mN n)).filter (aBs T n h)).map fun i=>((stA n (h i)).1,lo ((stA n (h i)).2*RT T n h i (NN n)) (dT T n h))
theorem aHO {T:List (List Int)}{n:Nat}{h:Nat->Nat}:aFr T n h=aCR (aFY T n h):=by
 unfold aFr aCR aFY
 rw[gz]
 rfl
theorem aFx {T:List (List Int)}{n:Nat}{h:Nat->Nat}{W:List (List Int × Int × Int)}(p:W.Perm (aFr T n h)):∃ W0:Cts,W0.Perm (aFY T n h)/\W=aCR W0:=by
 rw[aHO] at p
 exact aEi p (aFY T n h) rfl
theorem aHh {T:List (List Int)}{n:Nat}{h:Nat->Nat}(n3:3<=n)(n6:n<=6)(b:Bs T n)(ok:OkT T n h):(aFY T n h).length<=15/\∀ e∈aFY T n h,0<e.2.2/\e.2.2 ∣ dT T n h/\e.2.1.natAbs<2 ^ 900:=by
 refine ⟨?_,fun e he=>?_⟩
 ·unfold aFY
  rw[af]
  have:=xA (i:=mN n) (p:=aBs T n h)
  have:=(rD n3 n6).2.1
  omega
 ·obtain⟨i,_,rfl⟩:=fh.mp he
  refine ⟨aBS ok.d0,aEk ok.d0,?_⟩
  have sg:=aEz (j:=h i) n3 n6
  have:=aBB (show (stA n (h i)).2.natAbs<2 ^ 1 by omega) (aFS n3 n6 b h i (NN n))
  exact aw (mU ok.d0 this) (cg (by decide) (by decide))
def inW (i:Nat) (W:Cts):Pr:=(W.filter fun e=>e.1.contains i).map (·.2)
def aKq (T:List (List Int)) (n:Nat) (h:Nat->Nat) (W:Cts):Pr:=(av n).map fun i=>lo (jN (dT T n h) (inW i W)) (dT T n h)
section
variable {K:aa}
def aJX (K:aa) (C1 C2 C3:Addr):Sp:=fun vs H Q E=>∃ (v:V) (T:List (List Int)) (n:Nat),vs=[v]/\Sh K H (pY T) v/\Quad T n/\1<=n/\n<=8/\Unf C1 C2 C3 T n H E (Bs T n /\
 ∀ h p xs W H',Same H H'->OkT T n h->(∀ j,j<NN n->0<=RT T n h (mN n) j)->W.Perm (aFY T n h)->H' p=some (.tup xs)->Rows K H' xs (prI (aKq T n h W))->Q (.ref p) H')
theorem aKb {C1 C2 C3:Addr}:∀ vs H Q E,aJX K C1 C2 C3 vs H Q E->mP K E (yQ K) (aEc K C1 C2 C3) { nx:=fun _ H'=>Q .non H',rt:=Q } (bD ["table","worth","found","cuts"] vs) H:=by
 intro vs H Q E h
 obtain⟨v,T,n,rfl,hT,qT,n1,n8,q⟩:=h
 refine ⟨_,rfl,v,T,n,rfl,hT,qT,n1,n8,?_⟩
 rcases q with q | ⟨sy,q | q | ⟨n3,n6,bT,q⟩⟩
 ·exact .inl q
 ·exact .inr ⟨sy, .inl q⟩
 ·exact .inr ⟨sy, .inr (.inl q)⟩
 refine .inr ⟨sy, .inr (.inr ⟨n3,n6,bT,fun h p wp fl cl ys zs W H1 s1 ok all hp hwp _ hfl rfl' _ _ hcl pW0 sW rW=>?_⟩)⟩
 obtain⟨W,pW,rfl⟩:=aFx pW0
 obtain⟨c15,ck⟩:=aHh n3 n6 bT ok
 have wl:W.length<=15:=by rw[pW.length_eq];exact c15
 have ck:∀ e∈W,0<e.2.2/\e.2.2 ∣ dT T n h/\e.2.1.natAbs<2 ^ 900:=fun e he=>ck e (pW.mem_iff.mp he)
 have zl:zs.length=W.length:=by rw[rW.1];unfold aCR;rw[af]
 have d0:=ok.d0
 have db:(dT T n h).natAbs<2 ^ 2000:=aw (yL n3 n6 bT h) (cg (by decide) (by decide))
 refine ⟨p,_,rfl, .of hp,rfl,_,_,rfl,_,_,rfl,_,_,rfl,rfl,?_⟩
 obtain⟨ta,rs,rfl,ha,hrl,_⟩:=id hT.tab
 have hrl:rs.length=n:=hrl.trans qT.len
 refine ⟨_,rfl,ta,rs,rfl, .inr (s1.tup ha),(rs.length:Int),rfl,by omega,by omega,fun A hA=>?_⟩
 rw[bz,hrl]
 refine dP (lo:=0) (n:=n) (fun i σ' H'=>i<=n/\Same H1 H'/\(∃ x0,σ'=[x0,some (.ref cl)])/\∃ us,H' A=some (.lst us)/\Rows K H' us (prI ((av i).map fun i=>K40.lo (jN (dT T n h) (inW i W)) (dT T n h)))) ⟨ay _,aG hA _,⟨_,rfl⟩,[],aD,Rows.nil⟩ (fun i σ2 H2 hi ⟨_,s2,⟨x0,es⟩,us,hA2,r2⟩=>?_) fun σ2 H2 ⟨_,s2,_,us,hA2,r2⟩=>?_
 ·subst es
  rw[jn]
  refine ⟨_,rfl,cl,rfl, .inl ⟨⟨_, .of (s2 _ _ hcl)⟩,fun B hB=>?_⟩⟩
  refine cX (K:=K) (a:=cl) (xs:=zs) (fun j σ' H'=>j<=zs.length/\Same H2 H'/\(∃ x0 x1,σ'=[x0,x1,some (.int (i:Int))])/\∃ ws,H' B=some (.lst ws)/\Rows K H' ws (prI (inW i (W.take j)))) ⟨ay _,aG hB _,⟨_,_,rfl⟩,[],aD,Rows.nil⟩ (fun j σ3 H3 _ ⟨_,s3,_⟩ => .of (s3 _ _ (s2 _ _ hcl))) (fun j x σ3 H3 hx ⟨_,s3,⟨x0,x1,es⟩,ws,hB3,r3⟩=>?_) fun σ3 H3 ⟨_,s3,_,ws,hB3,r3⟩=>?_
  ·subst es
   have hj:j<zs.length:=(ai.mp hx).1
   obtain⟨e,b,c,f,he,rfl,hb,hc,hf⟩:=zQ (K:=K) (H:=H3) (eN rW fun b e=>Pt.same (s2.trans s3)) hx
   refine ⟨b,_,rfl,hb,rfl,_,_,rfl,_,_,rfl,rfl,?_⟩
   refine ⟨_,rfl,_,rfl,c,_,rfl, .inr hc,rfl,qP,_,rfl,?_⟩
   show if inV (.int (i:Int)) (e.1.map fI)=true then _ else _
   rw[vC]
   have e1:inW i (W.take (j+1))=inW i (W.take j)++if e.1.contains i=true then [e.2] else []:=by
    unfold inW
    rw[gx,he,j7,cz]
    congr 1
    exact aKZ (fun e:List Nat × (Int × Int)=>e.1.contains i) (·.2) e
   refine pL (fun cp=>?_) fun cp=>?_
   ·rw[if_pos cp] at e1
    refine ⟨_,rfl,ws,hB3,bq (show ws.length<=100 by rw[r3.1];unfold prI inW;rw[af,af];have:=dq (fun e:List Nat × (Int × Int)=>e.1.contains i) (W.take j);rw[df] at this;omega) (by decide),hj,eJ hB s3,⟨_,_,rfl⟩,_,aD,?_⟩
    rw[e1,oO]
    exact Rows.put (Rows.snoc r3 (b:=f) (r:=[e.2.1,e.2.2]) hf) hB3
   ·rw[if_neg cp,i4] at e1
    refine ⟨hj,s3,⟨_,_,rfl⟩,ws,hB3,?_⟩
    rw[e1]
    exact r3
  ·rw[zl,fq] at r3
   refine ⟨B,ws,inW i W,dT T n h,rfl,hB3,r3,fun e he=>?_,?_,d0,db,fun t H4 s4 ht=>?_⟩
   ·obtain⟨x,hx,rfl⟩:=fh.mp he
    obtain⟨c1,c2,c3⟩:=ck x (i8.mp hx).1
    exact ⟨c1,c2,aw c3 (cg (by decide) (by decide))⟩
   ·unfold inW
    rw[af]
    have:=dq (fun e:List Nat × (Int × Int)=>e.1.contains i) W
    omega
   ·have s24:=s3.trans s4
    have hA4:=s24 _ _ hA2
    refine ⟨us,hA4,bq (show us.length<=100 by rw[r2.1];unfold prI;rw[af,af,dy];omega) (by decide),hi,eJ hA (s2.trans s24),⟨_,rfl⟩,_,aD,?_⟩
    rw[qq,cz,oO]
    exact Rows.put (Rows.snoc (r2.same s24) (b:=t) (r:=[_,_]) (.of ht)) hA4
 ·refine ⟨A,us,rfl, .inl ⟨.of hA2,fun t ht=>?_⟩⟩
  have mt:=aG ht (.tup us)
  exact q h t us W _ ((s1.trans s2).trans mt) ok all pW aD (r2.same mt)
end
section
variable {K:aa}
theorem aHd {H H':Hp}{v:V}{p:Addr}{T:List (List Int)}{ys:List V}(h:Sh K H (pY T) v)(hp:H p=some (.lst ys))(sx:SameX p H H'):Sh K H' (pY T) v:=by
 obtain⟨a,rs,rfl,ha,hl,g⟩:=h.tab
 exact ⟨a,rs,rfl,lU ha hp sx,ShL.of_rows hl fun i row e=>by
  obtain⟨b,e1,e2⟩:=g i row e
  exact ⟨b,e1,lU e2 hp sx⟩⟩
theorem Pen.tab {H H':Hp}{v:V}{p l:Addr}{ns:List Int}{T:List (List Int)}(h:Sh K H (pY T) v)(hp:Pen H p l ns)(sx:SameX p H H'):Sh K H' (pY T) v:=by
 obtain⟨k,z,e,_⟩:=hp
 exact aHd h e sx
theorem aFj {H:Hp}{rs:List V}{T:List (List Int)}{i:Nat}{b:Addr}{row:List Int}(h:Rows K H rs T)(hb:SqT K H b (row.map V.int)):Rows K H (rs.set i (.ref b)) (T.set i row):=by
 refine ⟨by rw[cv,cv];exact h.1,fun j r e=>?_⟩
 rw[mr] at e
 rw[mr]
 split at e
 ·rename_i hj
  split at e
  ·rename_i hl
   rw[if_pos hj,if_pos (by rw[h.1];exact hl)]
   cases e
   exact ⟨b,rfl,hb⟩
  ·cases e
 ·rename_i hj
  rw[if_neg hj]
  exact h.2 j r e
theorem aFc {T:List (List Int)}{n i j:Nat}(hi:i<n)(hj:j<n)(hij:i≠j)(h:at2 T i j≠at2 T j i):(jL T n).all id=false:=by
 cases hq:(jL T n).all id with
 | false=>rfl
 | true=>
  exfalso
  have key:∀ a b,a<n->b<a->at2 T a b=at2 T b a:=fun a b ha hb=>by
   have:=e9.mp hq (at2 T a b == at2 T b a) (by
    unfold jL
    exact List.mem_flatMap.mpr ⟨a,gr.mpr ha,List.mem_flatMap.mpr ⟨b,gr.mpr hb,by simp⟩⟩)
   simpa using this
  rcases Nat.lt_or_gt_of_ne hij with c | c
  ·exact h (key j i hj c).symm
  ·exact h (key i j hi c)
theorem aCM {i r n:Nat}(hi:i<n)(hr:r<n - 1):∃ j:Nat,((i:Int)+1+(r:Int)) % (n:Int)=(j:Int)/\j<n/\i≠j:=by
 refine ⟨(i+1+r) % n,by rw[Int.natCast_emod];congr 1,Nat.mod_lt _ (by omega),?_⟩
 by_cases c:i+1+r<n
 ·rw[px c];omega
 ·rw[Nat.mod_eq_sub_mod (by omega),px (by omega)];omega
def aJs (K:aa):Sp:=fun vs H Q _=>∃ (p l:Addr) (ns:List Int) (v:V) (T:List (List Int)) (n:Nat),vs=[.ref p,v]/\Pen H p l ns/\Sh K H (pY T) v/\Quad T n/\Sy T n/\2<=n/\n<=8 /\
 ∀ T' v' H',Quad T' n->(jL T' n).all id=false->Sh K H' (pY T') v'->Pen H' p l ns->SameX p H H'->Q v' H'
theorem aKt:∀ vs H Q E,aJs K vs H Q E->lM K jH { nx:=fun _ H'=>Q .non H',rt:=Q } (bD ["feed","table","i","j","number","row"] vs) H:=by
 intro vs H Q E h
 obtain⟨p,l,ns,v,T,n,rfl,hP,hS,qT,sy,n2,n8,q⟩:=h
 obtain⟨a,rs,rfl,ha,hrl,hrow⟩:=id hS.tab
 have hrl:rs.length=n:=hrl.trans qT.len
 refine ⟨_,rfl,_,rfl,a,rs,rfl, .inr ha,p,l,ns,n,by rw[hrl];rfl,hP,by omega,bq n8 (by decide),fun i H1 hi hP1 sx1=>?_⟩
 have hS1:=hP.tab hS sx1
 have ha1:SqT K H1 a rs:=by obtain⟨k,z,e,_⟩:=hP;exact lU ha e sx1
 refine ⟨_,rfl,_,rfl,_,rfl,a,rs,rfl, .inr ha1,_,_,rfl,rfl,p,l,ns,n - 1,by rw[hrl];show [V.ref p,V.int ((n:Int) - 1)]=_;rw[show ((n - 1:Nat):Int)=(n:Int) - 1 by omega],hP1,by omega,bq (show n - 1<=8 by omega) (by decide),fun r H2 hr hP2 sx2=>?_⟩
 have hS2:=hP1.tab hS1 sx2
 have ha2:SqT K H2 a rs:=by obtain⟨k,z,e,_⟩:=hP1;exact lU ha1 e sx2
 obtain⟨j,ej,hj,hij⟩:=aCM hi hr
 refine ⟨_,rfl,a,rs,rfl, .inr ha2,_,_,rfl,rfl,by rw[hrl];show (0:Int)<(n:Int);omega,?_⟩
 show aP _ _ _ ([some (.ref p),some (.ref a),some (.int (i:Int)),some (.int (((i:Int)+1+(r:Int)) % (rs.length:Int))),none,none]:St) H2
 rw[hrl,ej]
 refine sP (t:=1) (si:=2) (sj:=3) rfl rfl rfl hS2 qT hi hj ?_
 refine sP (t:=1) (si:=2) (sj:=3) rfl rfl rfl hS2 qT hi hj ?_
 refine ⟨10,6,rfl,rfl,⟨by decide,by decide,by decide⟩, .int (at2 T i j), .int ((10:Int) ^ (6:Int).toNat),ay _,rfl,rfl, .inr ⟨_,rfl, .inl (.inl ⟨by decide,by decide⟩),_,_,rfl,rfl,?_⟩⟩
 obtain⟨w,ew,hw⟩:∃ w:Int,at2 T i j+1 - 2*(if eqD (.int (at2 T i j)) (.int ((10:Int) ^ (6:Int).toNat)) then 1 else 0)=w/\w≠at2 T i j:=⟨_,rfl,by split <;> omega⟩
 show aP _ _ _ ([some (.ref p),some (.ref a),some (.int (i:Int)),some (.int (j:Int)),some (.int (at2 T i j+1 - 2*(if eqD (.int (at2 T i j)) (.int ((10:Int) ^ (6:Int).toNat)) then 1 else 0))),none]:St) H2
 rw[ew]
 obtain⟨row,r1,r2,r3⟩:=qT.get hi
 obtain⟨a',rs',ea',ha',hrows⟩:=Sh.rowsT hS2
 cases ea'
 have hrn:rs'.length=n:=by rw[hrows.1,qT.len]
 obtain⟨rb,e1,e2⟩:=hrows.2 i row r1
 show tOp (cM K) (tOp (cM K) (tSl (wI K) (tOp (bH K) (aF 1) (aF 2)) dX (iA (aF 3))) (iN (aC (aF 4) aO))) (tSl (wI K) (tOp (bH K) (aF 1) (aF 2)) (iA (tOp (cM K) (aF 3) (tC (.int 1)))) dX) ([some (.ref p),some (.ref a),some (.int (i:Int)),some (.int (j:Int)),some (.int w),none]:St) H2 _
 refine aDY (p:=rb) (xs:=row.map V.int) (i:=j) (v := .int w) e2 (by rw[af];omega) (by rw[af];omega)
  (fun H' sm R hR=>⟨_,rfl,_,rfl,ixT (sm.tup ha') e1 hR⟩) (fun H' R hR=>⟨_,rfl,hR⟩) (fun H' R hR=>⟨_,rfl,hR⟩) (fun H' sm R hR=>⟨_,rfl,_,rfl,ixT (sm.tup ha') e1 hR⟩) (fun H' R hR=>⟨_,rfl,hR⟩) fun ln H3 s3 hln=>?_
 show tOp (cM K) (tOp (cM K) (tSl (wI K) (aF 1) dX (iA (aF 2))) (iN (aC (aF 5) aO))) (tSl (wI K) (aF 1) (iA (tOp (cM K) (aF 2) (tC (.int 1)))) dX) ([some (.ref p),some (.ref a),some (.int (i:Int)),some (.int (j:Int)),some (.int w),some (.ref ln)]:St) H3 _
 refine aDY (p:=a) (xs:=rs') (i:=i) (v := .ref ln) (s3.tup ha') (by omega) (by omega)
  (fun H' sm R hR=>⟨_,rfl,hR⟩) (fun H' R hR=>⟨_,rfl,hR⟩) (fun H' R hR=>⟨_,rfl,hR⟩) (fun H' sm R hR=>⟨_,rfl,hR⟩) (fun H' R hR=>⟨_,rfl,hR⟩) fun nt H4 s4 hnt=>?_
 have hF:Sh K H4 (pY (xO T i j w)) (.ref nt):=by
  unfold xO
  rw[r3]
  refine aIu hnt (aFj (hrows.same (s3.trans s4)) ?_)
  rw[yu]
  exact s4.tup hln
 refine q _ _ H4 (jU qT hi) (aFc hi hj hij ?_) hF ((hP2.x s3).x s4) (((sx1.trans sx2).trans s3.x).trans s4.x)
 rw[oC qT hi hj,oC qT hi hj,if_pos ⟨rfl,rfl⟩,if_neg (fun h=>hij h.2),sy j i hj hi]
 exact hw
end
structure Kx (K:aa)(C_NoBack C_NoRow C_NoTable C_NoText C_NotEven C_NotStraight C_RoundError C_TooFew C_TooMany:Addr):Prop where
 xE:aFW K C_NotEven
 hE:jm K (.ref C_NotEven) (.ref C_RoundError)=some true
 oE:lh K (.ref C_NotEven) [.ref C_NoBack, .ref C_NoRow, .ref C_NoTable, .ref C_NoText]=some false
 vE:cq K (.ref C_NotEven) (.type "ValueError")=some true
 eE:cq K (.ref C_NotEven) (.ref C_NotEven)=some true
 sE:cq K (.ref C_NotEven) (.ref C_NotStraight)=some false
 fE:cq K (.ref C_NotEven) (.ref C_TooFew)=some false
 mE:cq K (.ref C_NotEven) (.ref C_TooMany)=some false
 xF:aFW K C_TooFew
 hF:jm K (.ref C_TooFew) (.ref C_RoundError)=some true
 oF:lh K (.ref C_TooFew) [.ref C_NoBack, .ref C_NoRow, .ref C_NoTable, .ref C_NoText]=some false
 vF:cq K (.ref C_TooFew) (.type "ValueError")=some true
 eF:cq K (.ref C_TooFew) (.ref C_NotEven)=some false
 sF:cq K (.ref C_TooFew) (.ref C_NotStraight)=some false
 fF:cq K (.ref C_TooFew) (.ref C_TooFew)=some true
 mF:cq K (.ref C_TooFew) (.ref C_TooMany)=some false
 xM:aFW K C_TooMany
 hM:jm K (.ref C_TooMany) (.ref C_RoundError)=some true
 oM:lh K (.ref C_TooMany) [.ref C_NoBack, .ref C_NoRow, .ref C_NoTable, .ref C_NoText]=some false
 vM:cq K (.ref C_TooMany) (.type "ValueError")=some true
 eM:cq K (.ref C_TooMany) (.ref C_NotEven)=some false
 sM:cq K (.ref C_TooMany) (.ref C_NotStraight)=some false
 fM:cq K (.ref C_TooMany) (.ref C_TooFew)=some false
 mM:cq K (.ref C_TooMany) (.ref C_TooMany)=some true
section
variable {K:aa}{C_NoBack C_NoRow C_NoTable C_NoText C_NotEven C_NotStraight C_RoundError C_TooFew C_TooMany:Addr}
def aCc (K:aa) (C_NoBack C_NoRow C_NoTable C_NoText C_NotEven C_NotStraight C_TooFew C_TooMany:Addr):TS:=(aP (fV (bU (tOp aJW (aF 1) (tC .non))) (aP (eK (tC (.str ""))) aL) aL) (aP (bW (lX (aC (tCB (aBl K) (aC (aF 1) (aC (tC (.ref C_NotEven)) aO))) (aC (tCB (aBl K) (aC (aF 1) (aC (tC (.ref C_NotStraight)) aO))) aO))) (aK 2)) (aP (bW (tOp (cM K) (aF 2) (lX (aC (tCB (aBl K) (aC (aF 1) (aC (tC (.ref C_TooFew)) aO))) (aC (tCB (aBl K) (aC (aF 1) (aC (tC (.ref C_TooMany)) aO))) aO)))) (aK 2)) (aP (bW (tCB (aBl K) (aC (aF 1) (aC (iN (aC (tC (.ref C_NoBack)) (aC (tC (.ref C_NoRow)) (aC (tC (.ref C_NoTable)) (aC (tC (.ref C_NoText)) aO))))) aO))) (aK 3)) (aP (fV (tOr (bU (tOp (aBK K) (tBM K "list" aLa (aF 2) (aC (tC (.bl true)) aO)) (tC (.int 1)))) (tOr (aKU K (aF 3)) (aAO (tB (tCB (aBl K) (aC (aF 1) (aC (tC (.ty "ValueError")) aO))))))) (aP (eK (tC (.str "odd"))) aL) aL) (aP (eK (tOp (bH K) (lX (aC (tC (.str "even")) (aC (tC (.str "straight")) (aC (tC (.str "few")) (aC (tC (.str "many")) aO))))) (tBM K "list" aKT (aF 2) (aC (tC (.bl true)) aO)))) aL))))))
theorem aEU {e:Addr}{x0 x2 x3:Option V}{H1:Hp}{Q:VK}{D:lO}(hD:D.rt=Q)(k:Kx K C_NoBack C_NoRow C_NoTable C_NoText C_NotEven C_NotStraight C_RoundError C_TooFew C_TooMany)(he:H1 e=none)
  (q:∀ H',Same H1 H'->Q (.str "even") H'):aCc K C_NoBack C_NoRow C_NoTable C_NoText C_NotEven C_NotStraight C_TooFew C_TooMany D [x0,some (.ref e),x2,x3,none] (upd H1 e (lY e C_NotEven)):=by
 subst hD
 have h0:∀ H',Same (upd H1 e (lY e C_NotEven)) H'->H' e=some (lY e C_NotEven):=fun H' s=>s _ _ aD
 have s1:=aG he (lY e C_NotEven)
 have r0:=Same.refl (upd H1 e (lY e C_NotEven))
 refine ⟨_,rfl, .inr ⟨rfl,_,rfl,cD (by simp) ?_⟩⟩
 refine ⟨_,rfl,e,_,_,true,rfl,h0 _ r0,k.xE, .inr (.inl ⟨_,rfl,k.eE⟩),⟨_,rfl,e,_,_,false,rfl,h0 _ r0,k.xE, .inr (.inl ⟨_,rfl,k.sE⟩),⟨show 2<=ba by decide,fun F1 hF1=>?_⟩⟩⟩
 have m1:=aG hF1 (.lst [V.bl true, .bl false])
 have t1:=r0.trans m1
 refine ⟨_,rfl,_,rfl,e,_,_,false,rfl,h0 _ t1,k.xE, .inr (.inl ⟨_,rfl,k.fE⟩),⟨_,rfl,e,_,_,false,rfl,h0 _ t1,k.xE, .inr (.inl ⟨_,rfl,k.mE⟩),⟨show 2<=ba by decide,fun F2 hF2=>?_⟩⟩⟩
 have m2:=aG hF2 (.lst [V.bl false, .bl false])
 have t2:=t1.trans m2
 refine .inl ⟨F1,F2,_,_,rfl,rfl,m2 _ _ aD,aD,show 4<=ba by decide,fun G hG=>?_⟩
 have m3:=aG hG (.lst [V.bl true, .bl false, .bl false, .bl false])
 have t3:=t2.trans m3
 have hG3:(upd (upd (upd (upd H1 e (lY e C_NotEven)) F1 (.lst [V.bl true, .bl false])) F2 (.lst [V.bl false, .bl false])) G (.lst [V.bl true, .bl false, .bl false, .bl false])) G=some (.lst [V.bl true, .bl false, .bl false, .bl false]):=aD
 show aP _ _ _ ([x0,some (.ref e),some (.ref G),x3,none]:St) (upd (upd (upd (upd H1 e (lY e C_NotEven)) F1 (.lst [V.bl true, .bl false])) F2 (.lst [V.bl false, .bl false])) G (.lst [V.bl true, .bl false, .bl false, .bl false]))
 generalize upd (upd (upd (upd H1 e (lY e C_NotEven)) F1 (.lst [V.bl true, .bl false])) F2 (.lst [V.bl false, .bl false])) G (.lst [V.bl true, .bl false, .bl false, .bl false])=H3 at *
 refine ⟨_,rfl,show 4<=ba by decide,fun tp htp=>?_⟩
 have m4:=aG htp (.tup [V.ref C_NoBack, .ref C_NoRow, .ref C_NoTable, .ref C_NoText])
 have t4:=t3.trans m4
 refine ⟨e,_, .ref tp,false,rfl,h0 _ t4,k.xE, .inr (.inr ⟨tp,[C_NoBack,C_NoRow,C_NoTable,C_NoText],rfl,aD,k.oE⟩),?_⟩
 have hG4:=m4 _ _ hG3
 refine ⟨_,rfl, .inl ⟨rfl,_, .of hG4⟩,G,_, .bl true,rfl,rfl,hG4,rfl,rfl, .int _, .int 1,ay _,rfl,rfl,_,rfl,cD rfl ?_⟩
 refine ⟨_,rfl,false,rfl,cD rfl ?_⟩
 refine ⟨_,rfl,e,_,_,true,rfl,h0 _ t4,k.xE, .inl ⟨_,rfl,k.vE⟩,_,rfl,cD rfl ?_⟩
 refine ⟨show 4<=ba by decide,fun W hW=>?_⟩
 have m5:=aG hW (.lst [V.str "even", .str "straight", .str "few", .str "many"])
 have hG5:=m5 _ _ hG4
 refine ⟨_,rfl, .inl ⟨rfl,_, .of hG5⟩,G,_, .bl true,0,rfl,rfl,hG5,rfl,rfl,⟨_,rfl,rfl⟩,(fun m z hm=>absurd hm (lx _)),?_⟩
 exact ixL (j:=0) (.of aD) rfl (q _ (s1.trans (t4.trans m5)))
theorem aFn {e:Addr}{x0 x2 x3:Option V}{H1:Hp}{Q:VK}{D:lO}(hD:D.rt=Q)(k:Kx K C_NoBack C_NoRow C_NoTable C_NoText C_NotEven C_NotStraight C_RoundError C_TooFew C_TooMany)(he:H1 e=none)
  (q:∀ H',Same H1 H'->Q (.str "few") H'):aCc K C_NoBack C_NoRow C_NoTable C_NoText C_NotEven C_NotStraight C_TooFew C_TooMany D [x0,some (.ref e),x2,x3,none] (upd H1 e (lY e C_TooFew)):=by
 subst hD
 have h0:∀ H',Same (upd H1 e (lY e C_TooFew)) H'->H' e=some (lY e C_TooFew):=fun H' s=>s _ _ aD
 have s1:=aG he (lY e C_TooFew)
 have r0:=Same.refl (upd H1 e (lY e C_TooFew))
 refine ⟨_,rfl, .inr ⟨rfl,_,rfl,cD (by simp) ?_⟩⟩
 refine ⟨_,rfl,e,_,_,false,rfl,h0 _ r0,k.xF, .inr (.inl ⟨_,rfl,k.eF⟩),⟨_,rfl,e,_,_,false,rfl,h0 _ r0,k.xF, .inr (.inl ⟨_,rfl,k.sF⟩),⟨show 2<=ba by decide,fun F1 hF1=>?_⟩⟩⟩
 have m1:=aG hF1 (.lst [V.bl false, .bl false])
 have t1:=r0.trans m1
 refine ⟨_,rfl,_,rfl,e,_,_,true,rfl,h0 _ t1,k.xF, .inr (.inl ⟨_,rfl,k.fF⟩),⟨_,rfl,e,_,_,false,rfl,h0 _ t1,k.xF, .inr (.inl ⟨_,rfl,k.mF⟩),⟨show 2<=ba by decide,fun F2 hF2=>?_⟩⟩⟩
 have m2:=aG hF2 (.lst [V.bl true, .bl false])
 have t2:=t1.trans m2
 refine .inl ⟨F1,F2,_,_,rfl,rfl,m2 _ _ aD,aD,show 4<=ba by decide,fun G hG=>?_⟩
 have m3:=aG hG (.lst [V.bl false, .bl false, .bl true, .bl false])
 have t3:=t2.trans m3
 have hG3:(upd (upd (upd (upd H1 e (lY e C_TooFew)) F1 (.lst [V.bl false, .bl false])) F2 (.lst [V.bl true, .bl false])) G (.lst [V.bl false, .bl false, .bl true, .bl false])) G=some (.lst [V.bl false, .bl false, .bl true, .bl false]):=aD
 show aP _ _ _ ([x0,some (.ref e),some (.ref G),x3,none]:St) (upd (upd (upd (upd H1 e (lY e C_TooFew)) F1 (.lst [V.bl false, .bl false])) F2 (.lst [V.bl true, .bl false])) G (.lst [V.bl false, .bl false, .bl true, .bl false]))
 generalize upd (upd (upd (upd H1 e (lY e C_TooFew)) F1 (.lst [V.bl false, .bl false])) F2 (.lst [V.bl true, .bl false])) G (.lst [V.bl false, .bl false, .bl true, .bl false])=H3 at *
 refine ⟨_,rfl,show 4<=ba by decide,fun tp htp=>?_⟩
 have m4:=aG htp (.tup [V.ref C_NoBack, .ref C_NoRow, .ref C_NoTable, .ref C_NoText])
 have t4:=t3.trans m4
 refine ⟨e,_, .ref tp,false,rfl,h0 _ t4,k.xF, .inr (.inr ⟨tp,[C_NoBack,C_NoRow,C_NoTable,C_NoText],rfl,aD,k.oF⟩),?_⟩
 have hG4:=m4 _ _ hG3
 refine ⟨_,rfl, .inl ⟨rfl,_, .of hG4⟩,G,_, .bl true,rfl,rfl,hG4,rfl,rfl, .int _, .int 1,ay _,rfl,rfl,_,rfl,cD rfl ?_⟩
 refine ⟨_,rfl,false,rfl,cD rfl ?_⟩
 refine ⟨_,rfl,e,_,_,true,rfl,h0 _ t4,k.xF, .inl ⟨_,rfl,k.vF⟩,_,rfl,cD rfl ?_⟩
 refine ⟨show 4<=ba by decide,fun W hW=>?_⟩
 have m5:=aG hW (.lst [V.str "even", .str "straight", .str "few", .str "many"])
 have hG5:=m5 _ _ hG4
 refine ⟨_,rfl, .inl ⟨rfl,_, .of hG5⟩,G,_, .bl true,2,rfl,rfl,hG5,rfl,rfl,⟨_,rfl,rfl⟩,(fun m z hm hz=>?_),?_⟩
 ·match m,hm with
  | 0,_=>cases hz;rfl
  | 1,_=>cases hz;rfl
 exact ixL (j:=2) (.of aD) rfl (q _ (s1.trans (t4.trans m5)))
theorem aDz {e:Addr}{x0 x2 x3:Option V}{H1:Hp}{Q:VK}{D:lO}(hD:D.rt=Q)(k:Kx K C_NoBack C_NoRow C_NoTable C_NoText C_NotEven C_NotStraight C_RoundError C_TooFew C_TooMany)(he:H1 e=none)
  (q:∀ H',Same H1 H'->Q (.str "many") H'):aCc K C_NoBack C_NoRow C_NoTable C_NoText C_NotEven C_NotStraight C_TooFew C_TooMany D [x0,some (.ref e),x2,x3,none] (upd H1 e (lY e C_TooMany)):=by
 subst hD
 have h0:∀ H',Same (upd H1 e (lY e C_TooMany)) H'->H' e=some (lY e C_TooMany):=fun H' s=>s _ _ aD
 have s1:=aG he (lY e C_TooMany)
 have r0:=Same.refl (upd H1 e (lY e C_TooMany))
 refine ⟨_,rfl, .inr ⟨rfl,_,rfl,cD (by simp) ?_⟩⟩
 refine ⟨_,rfl,e,_,_,false,rfl,h0 _ r0,k.xM, .inr (.inl ⟨_,rfl,k.eM⟩),⟨_,rfl,e,_,_,false,rfl,h0 _ r0,k.xM, .inr (.inl ⟨_,rfl,k.sM⟩),⟨show 2<=ba by decide,fun F1 hF1=>?_⟩⟩⟩
 have m1:=aG hF1 (.lst [V.bl false, .bl false])
 have t1:=r0.trans m1
 refine ⟨_,rfl,_,rfl,e,_,_,false,rfl,h0 _ t1,k.xM, .inr (.inl ⟨_,rfl,k.fM⟩),⟨_,rfl,e,_,_,true,rfl,h0 _ t1,k.xM, .inr (.inl ⟨_,rfl,k.mM⟩),⟨show 2<=ba by decide,fun F2 hF2=>?_⟩⟩⟩
 have m2:=aG hF2 (.lst [V.bl false, .bl true])
 have t2:=t1.trans m2
 refine .inl ⟨F1,F2,_,_,rfl,rfl,m2 _ _ aD,aD,show 4<=ba by decide,fun G hG=>?_⟩
 have m3:=aG hG (.lst [V.bl false, .bl false, .bl false, .bl true])
 have t3:=t2.trans m3
 have hG3:(upd (upd (upd (upd H1 e (lY e C_TooMany)) F1 (.lst [V.bl false, .bl false])) F2 (.lst [V.bl false, .bl true])) G (.lst [V.bl false, .bl false, .bl false, .bl true])) G=some (.lst [V.bl false, .bl false, .bl false, .bl true]):=aD
 show aP _ _ _ ([x0,some (.ref e),some (.ref G),x3,none]:St) (upd (upd (upd (upd H1 e (lY e C_TooMany)) F1 (.lst [V.bl false, .bl false])) F2 (.lst [V.bl false, .bl true])) G (.lst [V.bl false, .bl false, .bl false, .bl true]))
 generalize upd (upd (upd (upd H1 e (lY e C_TooMany)) F1 (.lst [V.bl false, .bl false])) F2 (.lst [V.bl false, .bl true])) G (.lst [V.bl false, .bl false, .bl false, .bl true])=H3 at *
 refine ⟨_,rfl,show 4<=ba by decide,fun tp htp=>?_⟩
 have m4:=aG htp (.tup [V.ref C_NoBack, .ref C_NoRow, .ref C_NoTable, .ref C_NoText])
 have t4:=t3.trans m4
 refine ⟨e,_, .ref tp,false,rfl,h0 _ t4,k.xM, .inr (.inr ⟨tp,[C_NoBack,C_NoRow,C_NoTable,C_NoText],rfl,aD,k.oM⟩),?_⟩
 have hG4:=m4 _ _ hG3
 refine ⟨_,rfl, .inl ⟨rfl,_, .of hG4⟩,G,_, .bl true,rfl,rfl,hG4,rfl,rfl, .int _, .int 1,ay _,rfl,rfl,_,rfl,cD rfl ?_⟩
 refine ⟨_,rfl,false,rfl,cD rfl ?_⟩
 refine ⟨_,rfl,e,_,_,true,rfl,h0 _ t4,k.xM, .inl ⟨_,rfl,k.vM⟩,_,rfl,cD rfl ?_⟩
 refine ⟨show 4<=ba by decide,fun W hW=>?_⟩
 have m5:=aG hW (.lst [V.str "even", .str "straight", .str "few", .str "many"])
 have hG5:=m5 _ _ hG4
 refine ⟨_,rfl, .inl ⟨rfl,_, .of hG5⟩,G,_, .bl true,3,rfl,rfl,hG5,rfl,rfl,⟨_,rfl,rfl⟩,(fun m z hm hz=>?_),?_⟩
 ·match m,hm with
  | 0,_=>cases hz;rfl
  | 1,_=>cases hz;rfl
  | 2,_=>cases hz;rfl
 exact ixL (j:=3) (.of aD) rfl (q _ (s1.trans (t4.trans m5)))
def aCN (K:aa) (fo:Addr->Sp->Prop) (C1 C2 C3:Addr):Sp:=fun vs H Q _=>∃ (t f:Addr) (sp:Sp) (as:List V) (oc:Option Addr) (s:Str),vs=[.ref t]/\SqT K H t (.ref f :: as)/\fo f sp/\(as.length=1\/as.length=3)/\((oc=none/\s="")\/(oc=some C1/\s="even")\/(oc=some C2/\s="few")\/(oc=some C3/\s="many")) /\
 (∀ Q' E',(∀ v H',oc=none->Same H H'->Q' v H')->(∀ C H',oc=some C->Same H H'->E' (.ref C) none H')->sp as H Q' E')/\∀ H',Same H H'->Q (.str s) H'
theorem aIC {fo:Addr->Sp->Prop}(k:Kx K C_NoBack C_NoRow C_NoTable C_NoText C_NotEven C_NotStraight C_RoundError C_TooFew C_TooMany):∀ vs H Q E,aCN K fo C_NotEven C_TooFew C_TooMany vs H Q E->kB K fo C_NoBack C_NoRow C_NoTable C_NoText C_NotEven C_NotStraight C_RoundError C_TooFew C_TooMany { nx:=fun _ H'=>Q .non H',rt:=Q } (bD ["act","caught","kinds","others","e"] vs) H:=by
 intro vs H Q E h
 obtain⟨t,f,sp,as,oc,s,rfl,ht,ho,hl,hC,run,q⟩:=h
 have fin:∀ C H1,oc=some C->Same H H1->∀ (a:Addr) (σ':St),H1 a=none->σ'.length=5->aCc K C_NoBack C_NoRow C_NoTable C_NoText C_NotEven C_NotStraight C_TooFew C_TooMany { nx:=fun _ H'=>Q .non H',rt:=Q } (((σ'.set 4 (some (.ref a))).set 1 (some (.ref a))).set 4 none) (upd H1 a (lY a C)):=by
  intro C H1 eC s1 a σ' ha hl
  obtain⟨x0,x1,x2,x3,x4,rfl⟩:∃ x0 x1 x2 x3 x4,σ'=[x0,x1,x2,x3,x4]:=by
   match σ',hl with
   | [x0,x1,x2,x3,x4],_=>exact ⟨x0,x1,x2,x3,x4,rfl⟩
  subst eC
  rcases hC with ⟨e,_⟩ | ⟨e,rfl⟩ | ⟨e,rfl⟩ | ⟨e,rfl⟩
  ·cases e
  ·cases e;exact aEU rfl k ha fun H2 s2=>q H2 (s1.trans s2)
  ·cases e;exact aFn rfl k ha fun H2 s2=>q H2 (s1.trans s2)
  ·cases e;exact aDz rfl k ha fun H2 s2=>q H2 (s1.trans s2)
 have hx:∀ C,oc=some C->jm K (.ref C) (.ref C_RoundError)=some true:=fun C eC=>by
  subst eC
  rcases hC with ⟨e,_⟩ | ⟨e,rfl⟩ | ⟨e,rfl⟩ | ⟨e,rfl⟩
  ·cases e
  ·cases e;exact k.hE
  ·cases e;exact k.hF
  ·cases e;exact k.hM
 have none_:∀ H1,oc=none->Same H H1->aCc K C_NoBack C_NoRow C_NoTable C_NoText C_NotEven C_NotStraight C_TooFew C_TooMany { nx:=fun _ H'=>Q .non H',rt:=Q } [some (.ref t),some .non,none,none,none] H1:=fun H1 e s1=>by
  rcases hC with ⟨_,rfl⟩ | ⟨z,_⟩ | ⟨z,_⟩ | ⟨z,_⟩
  ·exact ⟨_,rfl, .inr ⟨rfl,_,rfl,dJ rfl (q H1 s1)⟩⟩
  ·rw[e] at z;cases z
  ·rw[e] at z;cases z
  ·rw[e] at z;cases z
 have throw:∀ C H1,oc=some C->Same H H1->∃ C',(Value.ref C) = .ref C'/\jm K (.ref C') (.ref C_RoundError)=some true/\∀ (a:Addr) (σ':St),H1 a=none->σ'.length=5->(aP (bW (aF 4) (aK 1)) aL) { nx:=fun σ2 H2=>aCc K C_NoBack C_NoRow C_NoTable C_NoText C_NotEven C_NotStraight C_TooFew C_TooMany { nx:=fun _ H'=>Q .non H',rt:=Q } (σ2.set 4 none) H2,rt:=Q,bk:=fun _ _=>False,ct:=fun _ _=>False } (σ'.set 4 (some (.ref a))) (upd H1 a (lY a C')):=fun C H1 eC s1=>by
  refine ⟨C,rfl,hx C eC,fun a σ' ha hl=>⟨_,?_,fin C H1 eC s1 a σ' ha hl⟩⟩
  rw[fw (by omega)]
 match as,hl,ht,run with
 | [x],_,ht,run=>
  refine ⟨_,rfl,t,_,rfl, .inr ht, .int 2, .int 2,ay _,rfl,rfl,_,rfl,dJ rfl ?_⟩
  exact ⟨_,rfl,ixT (j:=0) ht rfl ⟨f,sp,rfl,ho,_,rfl,ixT (j:=1) ht rfl (run _ _ (fun v H1 e s1=>none_ H1 e s1) fun C H1 e s1=>throw C H1 e s1)⟩⟩
 | [x,y,z],_,ht,run=>
  refine ⟨_,rfl,t,_,rfl, .inr ht, .int 4, .int 2,ay _,rfl,rfl,_,rfl,cD rfl ?_⟩
  refine ⟨_,rfl,t,_,rfl, .inr ht, .int 4, .int 3,ay _,rfl,rfl,_,rfl,cD rfl ?_⟩
  exact ⟨_,rfl,ixT (j:=0) ht rfl ⟨f,sp,rfl,ho,_,rfl,ixT (j:=1) ht rfl ⟨_,rfl,ixT (j:=2) ht rfl ⟨_,rfl,ixT (j:=3) ht rfl (run _ _ (fun v H1 e s1=>none_ H1 e s1) fun C H1 e s1=>throw C H1 e s1)⟩⟩⟩⟩
end
section
variable {K:aa}{C1 C2 C3 Cs Cb Ca Cc:Addr}
def foK (K:aa) (C1 C2 C3 Cs Cb Ca Cc:Addr) (f:Addr) (sp:Sp):Prop:=(f=Cs/\sp=aEc K C1 C2 C3)\/(f=Cb/\sp=aJX K C1 C2 C3)\/(f=Ca/\sp=aDQ K C1 C2 C3)\/(f=Cc/\sp=aDn K C1 C2 C3)
def Vd (C1 C2 C3:Addr) (T:List (List Int)) (n:Nat) (oc:Option Addr) (s:Str):Prop:=((jL T n).all id=false/\oc=some C1/\s="even")\/(Sy T n/\Bs T n/\((n<3/\oc=some C2/\s="few")\/(6<n/\oc=some C3/\s="many")\/(3<=n/\n<=6/\oc=none/\s="")))
theorem Vd.word {T:List (List Int)}{n:Nat}{oc:Option Addr}{s:Str}(h:Vd C1 C2 C3 T n oc s):(oc=none/\s="")\/(oc=some C1/\s="even")\/(oc=some C2/\s="few")\/(oc=some C3/\s="many"):=by
 rcases h with ⟨_,a,b⟩ | ⟨_,_,⟨_,a,b⟩ | ⟨_,a,b⟩ | ⟨_,_,a,b⟩⟩
 ·exact .inr (.inl ⟨a,b⟩)
 ·exact .inr (.inr (.inl ⟨a,b⟩))
 ·exact .inr (.inr (.inr ⟨a,b⟩))
 ·exact .inl ⟨a,b⟩
theorem Vd.unf {T:List (List Int)}{n:Nat}{oc:Option Addr}{s:Str}{H:Hp}{E:XK}{ok:Prop}(h:Vd C1 C2 C3 T n oc s)(hE:∀ C H',oc=some C->Same H H'->E (.ref C) none H')(hok:oc=none->3<=n->n<=6->Bs T n->ok):Unf C1 C2 C3 T n H E ok:=by
 rcases h with ⟨e,a,_⟩ | ⟨sy,bs,⟨lt,a,_⟩ | ⟨gt,a,_⟩ | ⟨n3,n6,a,_⟩⟩
 ·exact .inl ⟨e,fun H' s=>hE _ H' a s⟩
 ·exact .inr ⟨sy, .inl ⟨lt,fun H' s=>hE _ H' a s⟩⟩
 ·exact .inr ⟨sy, .inr (.inl ⟨gt,fun H' s=>hE _ H' a s⟩)⟩
 ·exact .inr ⟨sy, .inr (.inr ⟨n3,n6,hok a n3 n6 bs⟩)⟩
def Th (K:aa) (H:Hp) (ys:List V):Prop:=ys=[]\/ys=[.non]\/ys=[.int 7]\/(∃ b f,ys=[.ref b]/\SqT K H b [.int 0, .int 1, .ref f]/\Fr K H f 1 1)\/(∃ b f,ys=[.ref b]/\SqT K H b [.int 1, .int 0, .ref f]/\Fr K H f 0 1)\/∃ b q f,ys=[.ref b]/\SqT K H b [.ref q, .ref f]/\SqT K H q [.int 0]/\Fr K H f 1 2
theorem Th.map {H H':Hp}{ys:List V}(h:Th K H ys)(f:∀ a xs,SqT K H a xs->SqT K H' a xs):Th K H' ys:=by
 rcases h with h | h | h | ⟨b,g,e,h1,h2⟩ | ⟨b,g,e,h1,h2⟩ | ⟨b,q,g,e,h1,h2,h3⟩
 ·exact .inl h
 ·exact .inr (.inl h)
 ·exact .inr (.inr (.inl h))
 ·exact .inr (.inr (.inr (.inl ⟨b,g,e,f _ _ h1,f _ _ h2⟩)))
 ·exact .inr (.inr (.inr (.inr (.inl ⟨b,g,e,f _ _ h1,f _ _ h2⟩))))
 ·exact .inr (.inr (.inr (.inr (.inr ⟨b,q,g,e,f _ _ h1,f _ _ h2,f _ _ h3⟩))))
theorem Th.same {H H':Hp}{ys:List V}(s:Same H H')(h:Th K H ys):Th K H' ys:=h.map fun _ _=>s.tup
theorem aFM {H:Hp}{b f:Addr}{i j t z:Int}(hb:SqT K H b [.int i, .int j, .ref f])(hf:Fr K H f t z):Sh K H (.tup [.int i, .int j, .tup [.int t, .int z]]) (.ref b):=⟨b,_,rfl,hb,_,_,rfl,rfl,_,_,rfl,rfl,_,_,rfl,zZ hf,rfl⟩
theorem aKg {H:Hp}{b q f:Addr}{t z:Int}(hb:SqT K H b [.ref q, .ref f])(hq:SqT K H q [.int 0])(hf:Fr K H f t z):Sh K H (.tup [.tup [.int 0], .tup [.int t, .int z]]) (.ref b):=⟨b,_,rfl,hb,_,_,rfl,⟨q,_,rfl,hq,ShL.ints [0]⟩,_,_,rfl,zZ hf,rfl⟩
theorem vK:(1:Int).natAbs<2 ^ 2000:=aw (show 1<2 ^ 1 by decide) (cg (by decide) (by decide))
theorem aGZ {H:Hp}{v:V}{T:List (List Int)}{n:Nat}{oc:Option Addr}{s:Str}{l w:Addr}{a:Int × Int}{ys:List V}{Q':VK}{E':XK}(vd:Vd C1 C2 C3 T n oc s)(hT:Sh K H (pY T) v)(qT:Quad T n)(n1:1<=n)(n8:n<=8)(hl:H l=some (.lst ys))(th:Th K H ys)(hw:Fr K H w a.1 a.2)
  (hQ:∀ v H',oc=none->Same H H'->Q' v H') (hE:∀ C H',oc=some C->Same H H'->E' (.ref C) none H'):aDQ K C1 C2 C3 [v, .ref l, .ref w] H Q' E':=by
 refine ⟨v, .ref l, .ref w,T,n,rfl,hT,qT,n1,n8,vd.unf hE fun e n3 n6 bT=>⟨l,w,a,ys,rfl,rfl,bT,hw,hl,?_⟩⟩
 have q:∀ b H',Same H H'->Q' (.bl b) H':=fun b H' s=>hQ _ H' e s
 rcases th with rfl | rfl | rfl | ⟨b,f,rfl,h1,h2⟩ | ⟨b,f,rfl,h1,h2⟩ | ⟨b,p,f,rfl,h1,h2,h3⟩
 ·exact .inr ⟨[],1,uJ,by decide,(fun e he=>by cases he),(fun e he=>by cases he),(fun e he=>by cases he),by decide,vK,q _⟩
 ·exact .inl ⟨.non,rfl, .inl ⟨.non,rfl, .inl rfl⟩,q _⟩
 ·exact .inl ⟨.int 7,rfl, .inl ⟨.int 7,rfl, .inl rfl⟩,q _⟩
 ·refine .inr ⟨[((0,1),(1,1))],1,xJ (xs:=[]) (L:=[]) uJ (b:=b) (e:=[0,1,1,1]) ⟨f,0,1,1,1,rfl,h1,h2⟩,by decide,fun e he=>?_,fun e he=>?_,fun e he=>?_,by decide,vK,q _⟩
  ·rw[cy.mp he]
   refine ⟨?_,by show 0<n;omega,by show 1<n;omega⟩
   show shB n 0 1 1 1=true
   unfold shB
   rw[show frB 1 1=true by decide +kernel,decide_eq_true (show (1:Int)<(n:Int) by omega)]
   decide
  ·rw[cy.mp he]
   exact ⟨by decide,Int.dvd_refl _,vK⟩
  ·rw[cy.mp he]
   exact aw (show 1<2 ^ 1 by decide) (cg (by decide) (by decide))
 ·refine .inl ⟨.ref b,rfl, .inr ⟨b,f,1,0,0,1,rfl,h1,h2,?_⟩,q _⟩
  unfold shB
  rfl
 ·exact .inl ⟨.ref b,rfl, .inl ⟨_,aKg h1 h2 h3, .inr ⟨_,rfl,by decide⟩⟩,q _⟩
theorem aGY:∀ n,3<=n->n<=6->decide ([0]∈fD n)=true:=n36 (by decide +kernel) (by decide +kernel) (by decide +kernel) (by decide +kernel)
theorem aGU {H:Hp}{v:V}{T:List (List Int)}{n:Nat}{oc:Option Addr}{s:Str}{l w:Addr}{a:Int × Int}{ys:List V}{Q':VK}{E':XK}(vd:Vd C1 C2 C3 T n oc s)(hT:Sh K H (pY T) v)(qT:Quad T n)(n1:1<=n)(n8:n<=8)(hl:H l=some (.lst ys))(th:Th K H ys)(hw:Fr K H w a.1 a.2)
  (hQ:∀ v H',oc=none->Same H H'->Q' v H') (hE:∀ C H',oc=some C->Same H H'->E' (.ref C) none H'):aDn K C1 C2 C3 [v, .ref l, .ref w] H Q' E':=by
 refine ⟨v, .ref l, .ref w,T,n,rfl,hT,qT,n1,n8,vd.unf hE fun e n3 n6 bT=>⟨l,w,a,ys,rfl,rfl,bT,hw,hl,?_⟩⟩
 have q:∀ b H',Same H H'->Q' (.bl b) H':=fun b H' s=>hQ _ H' e s
 have one:∀ k:Nat,2<=k->(2:Int).natAbs<2 ^ k/\(1:Int).natAbs<2 ^ k:=fun k hk=>⟨aw (show 2<2 ^ 2 by decide) (cg (by decide) hk),aw (show 1<2 ^ 2 by decide) (cg (by decide) hk)⟩
 rcases th with rfl | rfl | rfl | ⟨b,f,rfl,h1,h2⟩ | ⟨b,f,rfl,h1,h2⟩ | ⟨b,p,f,rfl,h1,h2,h3⟩
 ·exact .inr ⟨[],1,uJ,by decide,(fun e he=>by cases he),(fun e he=>by cases he),by decide,(one 1000 (by decide)).2,(fun e he=>by cases he),q _⟩
 ·exact .inl ⟨.non,rfl,⟨.non,rfl, .inl rfl⟩,q _⟩
 ·exact .inl ⟨.int 7,rfl,⟨.int 7,rfl, .inl rfl⟩,q _⟩
 ·exact .inl ⟨.ref b,rfl,⟨_,aFM h1 h2, .inr ⟨_,rfl,by show 3≠2;decide⟩⟩,q _⟩
 ·exact .inl ⟨.ref b,rfl,⟨_,aFM h1 h2, .inr ⟨_,rfl,by show 3≠2;decide⟩⟩,q _⟩
 ·refine .inr ⟨[([0],(1,2))],2,xJ (xs:=[]) (L:=[]) uJ (b:=b) (e:=([0],1,2)) ⟨p,f,h1,h2,h3⟩,by decide,fun e he=>?_,fun e he=>?_,by decide,(one 1000 (by decide)).1,fun e he=>?_,q _⟩
  ·rw[cy.mp he]
   exact ⟨of_decide_eq_true (aGY n n3 n6),by decide +kernel⟩
  ·rw[cy.mp he]
   exact ⟨by decide,Int.dvd_refl _,vK⟩
  ·rw[cy.mp he]
   exact (one 900 (by decide)).2
theorem aDX {C F th w:Addr}{sp:Sp}{v x2:V}{oc:Option Addr}{s:Str}{H:Hp}{fs ys:List V}{D:lO}(ho:foK K C1 C2 C3 Cs Cb Ca Cc C sp)(hC:(oc=none/\s="")\/(oc=some C1/\s="even")\/(oc=some C2/\s="few")\/(oc=some C3/\s="many"))(hF:H F=some (.lst fs))(fl:fs.length<=100)(hth:H th=some (.lst ys))
  (run:∀ l H1,Same H H1->H1 l=some (.lst ys)->∀ Q' E',(∀ v H',oc=none->Same H1 H'->Q' v H')->(∀ C H',oc=some C->Same H1 H'->E' (.ref C) none H')->sp [v, .ref l, .ref w] H1 Q' E')
  (q:∀ H',SameX F H H'->H' F=some (.lst (fs++[.str s]))->D.nx [some v,some (.ref F),some x2,some (.ref th),some (.ref w)] H') :
  nP (tBM K "list" nY (aF 1) (aC (bG (aCN K (foK K C1 C2 C3 Cs Cb Ca Cc) C1 C2 C3) [] E0 (aC (iN (aC (tC (.ref C)) (aC (aF 0) (aC (tCB (aCg K) (aC (aF 3) aO)) (aC (aF 4) aO))))) aO)) aO)) D [some v,some (.ref F),some x2,some (.ref th),some (.ref w)] H:=by
 refine ⟨_,rfl, .inl ⟨rfl,_, .of hF⟩,_,rfl,_,rfl, .inl ⟨th,ys,rfl, .inl (.of hth),fun l hl=>⟨_,rfl,show 4<=ba by decide,fun t ht=>?_⟩⟩⟩
 have ml:=aG hl (.lst ys)
 have mt:=aG ht (.tup [V.ref C,v, .ref l, .ref w])
 have s2:=ml.trans mt
 refine ⟨t,C,sp,[v, .ref l, .ref w],oc,s,rfl, .of aD,ho, .inr rfl,hC,run l _ s2 (mt _ _ aD),fun H1 s1=>?_⟩
 have sA:=s2.trans s1
 exact ⟨F,fs,_,rfl,rfl,sA _ _ hF,bq fl (by decide),q _ (sA.x.trans (SameX.put _)) aD⟩
def aHB (K:aa) (C1 C2 C3:Addr):Sp:=fun vs H Q _=>∃ (v:V) (T:List (List Int)) (n:Nat) (oc:Option Addr) (s:Str),vs=[v]/\Sh K H (pY T) v/\Quad T n/\1<=n/\n<=8/\Vd C1 C2 C3 T n oc s/\∀ l H',Same H H'->H' l=some (.lst [.str s])->Q (.ref l) H'
theorem aBj {fs:List V}{s:Str}(h:∀ x∈fs,x = .str s):∀ x∈fs++[.str s],x = .str s:=fun x hx=>by
 rcases dv.mp hx with hx | hx
 ·exact h x hx
 ·exact cy.mp hx
theorem aKS:∀ vs H Q E,aHB K C1 C2 C3 vs H Q E->lB K Cc Ca Cb Cs (aCN K (foK K C1 C2 C3 Cs Cb Ca Cc) C1 C2 C3) { nx:=fun _ H'=>Q .non H',rt:=Q } (bD ["table","found","some","thing","worth"] vs) H:=by
 intro vs H Q E h
 obtain⟨v,T,n,oc,s,rfl,hT,qT,n1,n8,vd,q⟩:=h
 have hC:=vd.word
 refine ⟨_,rfl,show 2<=ba by decide,fun t ht=>?_⟩
 have mt:=aG ht (.tup [V.ref Cs,v])
 refine ⟨t,Cs,_,[v],oc,s,rfl, .of aD, .inl ⟨rfl,rfl⟩, .inl rfl,hC,fun Q' E' hQ hE=>⟨v,T,n,rfl,hT.same mt,qT,n1,n8,vd.unf hE fun e n3 n6 bT=>⟨bT,fun h p wp fl cl ys zs W H' s' _ _ _ _ _ _ _ _ _ _ _ _ _=>hQ _ H' e s'⟩⟩,fun H1 s1=>?_⟩
 have sA:=mt.trans s1
 refine ⟨_,rfl,show 2<=ba by decide,fun t2 ht2=>?_⟩
 have mt2:=aG ht2 (.tup [V.ref Cb,v])
 refine ⟨t2,Cb,_,[v],oc,s,rfl, .of aD, .inr (.inl ⟨rfl,rfl⟩), .inl rfl,hC,fun Q' E' hQ hE=>⟨v,T,n,rfl,hT.same (sA.trans mt2),qT,n1,n8,vd.unf hE fun e n3 n6 bT=>⟨bT,fun h p xs W H' s' _ _ _ _ _=>hQ _ H' e s'⟩⟩,fun H2 s2=>?_⟩
 have sB:=(sA.trans mt2).trans s2
 refine ⟨show 2<=ba by decide,fun F hF=>?_⟩
 have mF:=aG hF (.lst [V.str s, .str s])
 have hF3:(upd H2 F (.lst [V.str s, .str s])) F=some (.lst [V.str s, .str s]):=aD
 have sC:=sB.trans mF
 have hFH:H F=none:=sB.free hF
 generalize upd H2 F (.lst [V.str s, .str s])=H3 at *
 refine ⟨show 0<=ba by decide,fun a0 h0=>?_⟩
 have m0:=aG h0 (.lst [])
 have g0:(upd H3 a0 (.lst [])) a0=some (.lst []):=aD
 generalize upd H3 a0 (.lst [])=G0 at *
 refine ⟨show 1<=ba by decide,fun a1 h1=>?_⟩
 have m1:=aG h1 (.lst [V.non])
 have g1:(upd G0 a1 (.lst [V.non])) a1=some (.lst [V.non]):=aD
 generalize upd G0 a1 (.lst [V.non])=G1 at *
 refine ⟨show 2<=ba by decide,fun f2 hf2=>⟨show 3<=ba by decide,fun b2 hb2=>⟨show 1<=ba by decide,fun a2 h2=>?_⟩⟩⟩
 have k2f:=aG hf2 (.tup [V.int 1, .int 1])
 have k2b:=aG hb2 (.tup [V.int 0, .int 1, .ref f2])
 have k2a:=aG h2 (.lst [V.ref b2])
 have m2:=(k2f.trans k2b).trans k2a
 have g2:(upd (upd (upd G1 f2 (.tup [V.int 1, .int 1])) b2 (.tup [V.int 0, .int 1, .ref f2])) a2 (.lst [V.ref b2])) a2=some (.lst [V.ref b2]):=aD
 have t2':Th K (upd (upd (upd G1 f2 (.tup [V.int 1, .int 1])) b2 (.tup [V.int 0, .int 1, .ref f2])) a2 (.lst [V.ref b2])) [V.ref b2] := .inr (.inr (.inr (.inl ⟨b2,f2,rfl,k2a.tup (.of aD),(k2b.trans k2a).tup (.of aD)⟩)))
 generalize upd (upd (upd G1 f2 (.tup [V.int 1, .int 1])) b2 (.tup [V.int 0, .int 1, .ref f2])) a2 (.lst [V.ref b2])=G2 at *
 refine ⟨show 1<=ba by decide,fun q3 hq3=>⟨show 2<=ba by decide,fun f3 hf3=>⟨show 2<=ba by decide,fun b3 hb3=>⟨show 1<=ba by decide,fun a3 h3=>?_⟩⟩⟩⟩
 have k3q:=aG hq3 (.tup [V.int 0])
 have k3f:=aG hf3 (.tup [V.int 1, .int 2])
 have k3b:=aG hb3 (.tup [V.ref q3, .ref f3])
 have k3a:=aG h3 (.lst [V.ref b3])
 have m3:=((k3q.trans k3f).trans k3b).trans k3a
 have g3:(upd (upd (upd (upd G2 q3 (.tup [V.int 0])) f3 (.tup [V.int 1, .int 2])) b3 (.tup [V.ref q3, .ref f3])) a3 (.lst [V.ref b3])) a3=some (.lst [V.ref b3]):=aD
 have t3':Th K (upd (upd (upd (upd G2 q3 (.tup [V.int 0])) f3 (.tup [V.int 1, .int 2])) b3 (.tup [V.ref q3, .ref f3])) a3 (.lst [V.ref b3])) [V.ref b3] := .inr (.inr (.inr (.inr (.inr ⟨b3,q3,f3,rfl,k3a.tup (.of aD),((k3f.trans k3b).trans k3a).tup (.of aD),(k3b.trans k3a).tup (.of aD)⟩))))
 generalize upd (upd (upd (upd G2 q3 (.tup [V.int 0])) f3 (.tup [V.int 1, .int 2])) b3 (.tup [V.ref q3, .ref f3])) a3 (.lst [V.ref b3])=G3 at *
 refine ⟨show 2<=ba by decide,fun f4 hf4=>⟨show 3<=ba by decide,fun b4 hb4=>⟨show 1<=ba by decide,fun a4 h4=>?_⟩⟩⟩
 have k4f:=aG hf4 (.tup [V.int 0, .int 1])
 have k4b:=aG hb4 (.tup [V.int 1, .int 0, .ref f4])
 have k4a:=aG h4 (.lst [V.ref b4])
 have m4:=(k4f.trans k4b).trans k4a
 have g4:(upd (upd (upd G3 f4 (.tup [V.int 0, .int 1])) b4 (.tup [V.int 1, .int 0, .ref f4])) a4 (.lst [V.ref b4])) a4=some (.lst [V.ref b4]):=aD
 have t4':Th K (upd (upd (upd G3 f4 (.tup [V.int 0, .int 1])) b4 (.tup [V.int 1, .int 0, .ref f4])) a4 (.lst [V.ref b4])) [V.ref b4] := .inr (.inr (.inr (.inr (.inl ⟨b4,f4,rfl,k4a.tup (.of aD),(k4b.trans k4a).tup (.of aD)⟩))))
 generalize upd (upd (upd G3 f4 (.tup [V.int 0, .int 1])) b4 (.tup [V.int 1, .int 0, .ref f4])) a4 (.lst [V.ref b4])=G4 at *
 refine ⟨show 1<=ba by decide,fun a5 h5=>?_⟩
 have m5:=aG h5 (.lst [V.int 7])
 have g5:(upd G4 a5 (.lst [V.int 7])) a5=some (.lst [V.int 7]):=aD
 generalize upd G4 a5 (.lst [V.int 7])=G5 at *
 refine ⟨show 6<=ba by decide,fun S hS=>?_⟩
 have mS:=aG hS (.lst [V.ref a0, .ref a1, .ref a2, .ref a3, .ref a4, .ref a5])
 have gS:(upd G5 S (.lst [V.ref a0, .ref a1, .ref a2, .ref a3, .ref a4, .ref a5])) S=some (.lst [V.ref a0, .ref a1, .ref a2, .ref a3, .ref a4, .ref a5]):=aD
 generalize upd G5 S (.lst [V.ref a0, .ref a1, .ref a2, .ref a3, .ref a4, .ref a5])=G at *
 have s5:=m5.trans mS
 have s4:=m4.trans s5
 have s3:=m3.trans s4
 have s2x:=m2.trans s3
 have s1x:=m1.trans s2x
 have s0x:=m0.trans s1x
 have sG:=sC.trans s0x
 have hFG:=s0x _ _ hF3
 have things:∀ (i:Nat) (x:V),[V.ref a0, .ref a1, .ref a2, .ref a3, .ref a4, .ref a5][i]?=some x->∃ th ys,x = .ref th/\G th=some (.lst ys)/\Th K G ys/\th≠F:=by
  have ne:∀ {a:Addr} {H':Hp},Same H3 H'->H' a=none->a≠F:=fun sm e z=>by
   have:=sm _ _ hF3
   rw[<- z,e] at this
   cases this
  intro i x hx
  match i,hx with
  | 0,hx=>exact ⟨a0,[],(bf hx).symm,s1x _ _ g0, .inl rfl,ne (Same.refl _) h0⟩
  | 1,hx=>exact ⟨a1,_,(bf hx).symm,s2x _ _ g1, .inr (.inl rfl),ne m0 h1⟩
  | 2,hx=>exact ⟨a2,_,(bf hx).symm,s3 _ _ g2,t2'.same s3,ne (m0.trans (m1.trans (k2f.trans k2b))) h2⟩
  | 3,hx=>exact ⟨a3,_,(bf hx).symm,s4 _ _ g3,t3'.same s4,ne (m0.trans (m1.trans (m2.trans ((k3q.trans k3f).trans k3b)))) h3⟩
  | 4,hx=>exact ⟨a4,_,(bf hx).symm,s5 _ _ g4,t4'.same s5,ne (m0.trans (m1.trans (m2.trans (m3.trans (k4f.trans k4b))))) h4⟩
  | 5,hx=>exact ⟨a5,_,(bf hx).symm,mS _ _ g5, .inr (.inr (.inl rfl)),ne (m0.trans (m1.trans (m2.trans (m3.trans m4)))) h5⟩
 have SF:S≠F:=fun z=>by
  have:=((m0.trans (m1.trans (m2.trans (m3.trans m4)))).trans m5) _ _ hF3
  rw[<- z,hS] at this
  cases this
 clear g0 g1 g2 g3 g4 g5 t2' t3' t4'
 refine ⟨_,rfl,S,rfl, .inl ⟨⟨_, .of gS⟩,?_⟩⟩
 refine cX (K:=K) (a:=S) (xs:=[V.ref a0, .ref a1, .ref a2, .ref a3, .ref a4, .ref a5]) (fun i σ' H'=>i<=6/\SameX F G H'/\(∃ x3 x4,σ'=[some v,some (.ref F),some (.ref S),x3,x4])/\∃ fs,H' F=some (.lst fs)/\fs≠[]/\(∀ x∈fs,x = .str s)/\fs.length<=2+4*i) ⟨ay _,SameX.refl _ _,⟨_,_,rfl⟩,_,hFG,by simp,fun x hx=>by simpa using hx,bg _⟩ (fun i σ1 H1 _ ⟨_,sx,_⟩ => .of (sx _ _ SF gS)) (fun i x σ1 H1 hx ⟨_,sx,⟨x3,x4,es⟩,fs,hfs,ne,al,fl⟩=>?_) fun σ1 H1 ⟨_,sx,⟨x3,x4,es⟩,fs,hfs,ne,al,fl⟩=>?_
 ·subst es
  have hi:i<6:=(ai.mp hx).1
  obtain⟨th,ys,rfl,hth,tth,nth⟩:=things i x hx
  have sqG:∀ {H':Hp},SameX F G H'->∀ a xs,SqT K G a xs->SqT K H' a xs:=fun sx' a xs h=>lU h hFG sx'
  refine ⟨show 2<=ba by decide,fun w1 hw1=>⟨show 2<=ba by decide,fun w2 hw2=>⟨show 2<=ba by decide,fun X hX=>?_⟩⟩⟩
  have p1:=aG hw1 (.tup [V.int 0, .int 1])
  have p2:=aG hw2 (.tup [V.int 5, .int 2])
  have p3:=aG hX (.lst [V.ref w1, .ref w2])
  have e1:Fr K (upd (upd (upd H1 w1 (.tup [V.int 0, .int 1])) w2 (.tup [V.int 5, .int 2])) X (.lst [V.ref w1, .ref w2])) w1 0 1:=(p2.trans p3).tup (.of aD)
  have e2:Fr K (upd (upd (upd H1 w1 (.tup [V.int 0, .int 1])) w2 (.tup [V.int 5, .int 2])) X (.lst [V.ref w1, .ref w2])) w2 5 2:=p3.tup (.of aD)
  have eX:(upd (upd (upd H1 w1 (.tup [V.int 0, .int 1])) w2 (.tup [V.int 5, .int 2])) X (.lst [V.ref w1, .ref w2])) X=some (.lst [V.ref w1, .ref w2]):=aD
  have pA:=(p1.trans p2).trans p3
  have XF:X≠F:=fun z=>by
   have:=(p1.trans p2) _ _ hfs
   rw[<- z,hX] at this
   cases this
  have sx2:SameX F G _:=sx.trans pA.x
  have hfs2:=pA _ _ hfs
  generalize upd (upd (upd H1 w1 (.tup [V.int 0, .int 1])) w2 (.tup [V.int 5, .int 2])) X (.lst [V.ref w1, .ref w2])=H2' at *
  have ws:∀ (j:Nat) (x:V),[V.ref w1, .ref w2][j]?=some x->∃ w a,x = .ref w/\Fr K H2' w (a:Int × Int).1 a.2:=by
   intro j x hx
   match j,hx with
   | 0,hx=>exact ⟨w1,(0,1),(bf hx).symm,e1⟩
   | 1,hx=>exact ⟨w2,(5,2),(bf hx).symm,e2⟩
  refine ⟨X,rfl, .inl ⟨⟨_, .of eX⟩,?_⟩⟩
  refine cX (K:=K) (a:=X) (xs:=[V.ref w1, .ref w2]) (fun j σ' H'=>j<=2/\SameX F H2' H'/\(∃ x4,σ'=[some v,some (.ref F),some (.ref S),some (.ref th),x4])/\∃ gs,H' F=some (.lst gs)/\gs≠[]/\(∀ x∈gs,x = .str s)/\gs.length<=fs.length+2*j) ⟨ay _,SameX.refl _ _,⟨_,rfl⟩,fs,hfs2,ne,al,by omega⟩ (fun j σ2 H3' _ ⟨_,sy,_⟩ => .of (sy _ _ XF eX)) (fun j x σ2 H3' hx' ⟨_,sy,⟨y4,es⟩,gs,hgs,gne,gal,gl⟩=>?_) fun σ2 H3' ⟨_,sy,⟨y4,es⟩,gs,hgs,gne,gal,gl⟩=>?_
  ·subst es
   have hj:j<2:=(ai.mp hx').1
   obtain⟨w,a,rfl,hw⟩:=ws j x hx'
   have sx3:SameX F G H3':=sx2.trans sy
   have hw3:Fr K H3' w a.1 a.2:=lU hw hfs2 sy
   have gl2:gs.length<=60:=by omega
   refine aDX (ys:=ys) (oc:=oc) (s:=s) (.inr (.inr (.inl ⟨rfl,rfl⟩))) hC hgs (by omega) (sx3 _ _ nth hth) (fun l H4 s4 hl Q' E' hQ hE=>aGZ vd (aHd ((hT.same sG)) hFG (sx3.trans s4.x)) qT n1 n8 hl (tth.map (sqG (sx3.trans s4.x))) (s4.tup hw3) hQ hE) fun H4 sz hg4=>?_
   have sx4:=sx3.trans sz
   refine aDX (ys:=ys) (oc:=oc) (s:=s) (.inr (.inr (.inr ⟨rfl,rfl⟩))) hC hg4 (by rw[az];simp;omega) (sx4 _ _ nth hth) (fun l H5 s5 hl Q' E' hQ hE=>aGU vd (aHd ((hT.same sG)) hFG (sx4.trans s5.x)) qT n1 n8 hl (tth.map (sqG (sx4.trans s5.x))) (s5.tup (lU hw3 hgs sz)) hQ hE) fun H5 sw hg5=>?_
   exact ⟨hj,(sy.trans sz).trans sw,⟨_,rfl⟩,_,hg5,by simp,aBj (aBj gal),by rw[az,az];simp;omega⟩
  ·subst es
   have gl:gs.length<=fs.length+2*2:=gl
   exact ⟨hi,sx2.trans sy,⟨_,_,rfl⟩,gs,hgs,gne,gal,by omega⟩
 ·subst es
  have fl:fs.length<=2+4*6:=fl
  refine ⟨_,rfl,F,fs,s,rfl, .of hfs,ne,al,by omega,fun H' s' l hl=>?_⟩
  have ml:=aG hl (.lst [V.str s])
  refine q l _ (fun b o e=>ml _ _ (s' _ _ ?_)) aD
  have hb:b≠F:=fun z=>by rw[z,hFH] at e;cases e
  exact sx _ _ hb (sG _ _ e)
end
section
variable {K:aa}{C1 C2 C3:Addr}
def aEn (K:aa):Sp:=fun vs H Q _=>∃ (a:Addr) (ns:List Int),vs=[.ref a]/\SqL K H a (ns.map V.int)/\ns.length<=63/\∀ H',Q (.bl true) H'
theorem aFN (s:Str):eqD (.lst [.str s]) (.lst [.str s])=true:=wK _
theorem aBn {H:Hp}{l:Addr}{s:Str}(h:H l=some (.lst [.str s])):Sh K H (.lst [.str s]) (.ref l):=⟨l,_,rfl, .of h,_,_,rfl,rfl,rfl⟩
theorem aId:∀ vs H Q E,aEn K vs H Q E->aIN K (aHB K C1 C2 C3) (aBq K) (aBu K) (aJs K) { nx:=fun _ H'=>Q .non H',rt:=Q } (bD ["script","feed","turn_v","table","due"] vs) H:=by
 intro vs H Q E h
 obtain⟨a,ns0,rfl,hS0,h63,q⟩:=h
 refine ⟨_,rfl,a,ns0,rfl,hS0,fun p l ns H0 s0 hP0=>?_⟩
 refine ⟨3,rfl,by decide,by decide,?_⟩
 refine dP (lo:=0) (n:=3) (fun i σ' H'=>Pen H' p l ns/\∃ x2 x3 x4,σ'=[some (.ref a),some (.ref p),x2,x3,x4]) ⟨hP0,_,_,_,rfl⟩ (fun i σ' H' hi ⟨hP,x2,x3,x4,es⟩=>?_) fun σ' H' _=>q H'
 subst es
 refine ⟨_,rfl,p,l,ns,1,7,rfl,by decide,by decide,hP,fun T n v H1 n1 n8 qT bT sT hS1 hP1 sx1=>?_⟩
 obtain⟨va,rs,rfl,hva,hrl,_⟩:=id hS1.tab
 have hrl:rs.length=n:=hrl.trans qT.len
 refine ⟨_,rfl,va,rs,rfl, .inr hva,_,_,rfl,rfl,_,rfl,?_⟩
 rw[hrl]
 have rest:∀ (due:Str) (oc:Option Addr),Vd C1 C2 C3 T n oc due->(aP (fV (bU (tOp (aBK K) (bG (aHB K C1 C2 C3) [] E0 (aC (aF 3) aO)) (lX (aC (aF 4) aO)))) (aP (eK (tC (.bl false))) aL) aL) (aP (fV (aFR (bU (tOp yGt (tCB (jM K) (aC (aF 3) aO)) (tC (.int 1)))) (bU (tOp (aBK K) (bG (aHB K C1 C2 C3) [] E0 (aC (bG (aJs K) [] E0 (aC (aF 1) (aC (aF 3) aO))) aO)) (lX (aC (tC (.str "even")) aO))))) (aP (eK (tC (.bl false))) aL) aL) aL)) { nx:=fun σ' H'=>Pen H' p l ns/\∃ x2 x3 x4,σ'=[some (.ref a),some (.ref p),x2,x3,x4],rt:=Q,bk:=aP (eK (tC (.bl true))) aL { nx:=fun _ H'=>Q .non H',rt:=Q },ct:=fun σ' H'=>Pen H' p l ns/\∃ x2 x3 x4,σ'=[some (.ref a),some (.ref p),x2,x3,x4] } ([some (.ref a),some (.ref p),some (.int (0+(i:Int))),some (.ref va),some (.str due)]:St) H1:=by
  intro due oc vd
  refine ⟨_,rfl, .ref va,T,n,oc,due,rfl,hS1,qT,n1,n8,vd,fun l1 H2 s2 hl1=>⟨_,rfl,show 1<=ba by decide,fun l2 hl2=>?_⟩⟩
  have m2:=aG hl2 (.lst [V.str due])
  refine ⟨_,_,show dep (.lst [.str due])<=100 by exact gy (by show 1<100;decide),aBn (m2 _ _ hl1),aBn aD,_,rfl,cD (by rw[aFN];rfl) ?_⟩
  have sA:=s2.trans m2
  have hP2:=hP1.x sA
  have hS2:=hS1.same sA
  have hva2:=sA.tup hva
  generalize upd H2 l2 (.lst [V.str due])=H3 at *
  refine ⟨_,rfl,va,rs,rfl, .inr hva2,_,_,rfl,rfl,_,rfl,?_⟩
  rw[hrl]
  refine pL (fun c=>?_) fun c=>?_
  ·have n2:2<=n:=by have:(1:Int)<(n:Int):=of_decide_eq_true c;omega
   refine ⟨_,rfl,_,rfl,p,l,ns, .ref va,T,n,rfl,hP2,hS2,qT,sT,n2,n8,fun T' v' H4 qT' ev hS4 hP4 sx4=>?_⟩
   refine ⟨v',T',n,some C1,"even",rfl,hS4,qT',n1,n8, .inl ⟨ev,rfl,rfl⟩,fun l3 H5 s5 hl3=>⟨show 1<=ba by decide,fun l4 hl4=>?_⟩⟩
   have m5:=aG hl4 (.lst [V.str "even"])
   refine ⟨_,_,show dep (.lst [.str "even"])<=100 by exact gy (by show 1<100;decide),aBn (m5 _ _ hl3),aBn aD,_,rfl,cD (by rw[aFN];rfl) ?_⟩
   exact ⟨hP4.x (s5.trans m5),_,_,_,rfl⟩
  ·exact cD rfl ⟨hP2,_,_,_,rfl⟩
 refine pL (fun c=>?_) fun c=>?_
 ·have lt:n<3:=by have:(n:Int)<3:=of_decide_eq_true c;omega
  refine ⟨_,rfl,va,rs,rfl, .inr hva,_,_,rfl,rfl,_,rfl,?_⟩
  rw[hrl]
  exact cD (decide_eq_false (by omega)) (rest "few" (some C2) (.inr ⟨sT,bT, .inl ⟨lt,rfl,rfl⟩⟩))
 ·have ge:¬ (n:Int)<3:=of_decide_eq_false (fc _ |>.mp c)
  refine ⟨_,rfl,va,rs,rfl, .inr hva,_,_,rfl,rfl,_,rfl,?_⟩
  rw[hrl]
  refine pL (fun c=>?_) fun c=>?_
  ·have gt:(6:Int)<(n:Int):=of_decide_eq_true c
   exact rest "many" (some C3) (.inr ⟨sT,bT, .inr (.inl ⟨by omega,rfl,rfl⟩)⟩)
  ·have le:¬ (6:Int)<(n:Int):=of_decide_eq_false (fc _ |>.mp c)
   exact rest "" none (.inr ⟨sT,bT, .inr (.inr ⟨by omega,by omega,rfl,rfl⟩)⟩)
end
section
variable {K:aa}{C_NotEven C_TooFew C_TooMany C_shares C_best_prices C_are_shares C_are_cuts:Addr}
theorem aAn:∀ vs H Q E,(K40.L.spW K) vs H Q E->vs.length=1:=by
 intro vs H Q E h
 obtain⟨_,_,e,_⟩:=h
 rw[e]
 rfl
theorem vI:∀ vs H Q E,(K40.L.spWs K) vs H Q E->vs.length=1:=by
 intro vs H Q E h
 obtain⟨_,_,e,_⟩:=h
 rw[e]
 rfl
theorem aDf:∀ vs H Q E,(aAV K) vs H Q E->vs.length=2:=by
 intro vs H Q E h
 obtain⟨_,_,e,_⟩:=h
 rw[e]
 rfl
theorem oI:∀ vs H Q E,aHF vs H Q E->vs.length=2:=by
 intro vs H Q E h
 obtain⟨_,_,e,_⟩:=h
 rw[e]
 rfl
theorem tM:∀ vs H Q E,(aJn K) vs H Q E->vs.length=1:=by
 intro vs H Q E h
 obtain⟨_,_,_,e,_⟩:=h
 rw[e]
 rfl
theorem aFf:∀ vs H Q E,(aDB K) vs H Q E->vs.length=2:=by
 intro vs H Q E h
 obtain⟨_,_,_,_,_,_,e,_⟩:=h
 rw[e]
 rfl
theorem aCf:∀ vs H Q E,(aIF K) vs H Q E->vs.length=2:=by
 intro vs H Q E h
 obtain⟨_,_,_,_,_,_,e,_⟩:=h
 rw[e]
 rfl
theorem pU:∀ vs H Q E,(aJJ K) vs H Q E->vs.length=1:=by
 intro vs H Q E h
 obtain⟨_,_,_,_,e,_⟩:=h
 rw[e]
 rfl
theorem xV:∀ vs H Q E,(aJF K) vs H Q E->vs.length=2:=by
 intro vs H Q E h
 obtain⟨_,_,_,_,e,_⟩:=h
 rw[e]
 rfl
theorem aEN:∀ vs H Q E,(yQ K) vs H Q E->vs.length=1:=by
 intro vs H Q E h
 obtain⟨_,_,_,_,e,_⟩:=h
 rw[e]
 rfl
theorem aCq:∀ vs H Q E,(aKf K) vs H Q E->vs.length=1:=by
 intro vs H Q E h
 obtain⟨_,_,_,e,_⟩:=h
 rw[e]
 rfl
theorem rX:∀ vs H Q E,(aHC K C_NotEven C_TooFew C_TooMany) vs H Q E->vs.length=1:=by
 intro vs H Q E h
 obtain⟨_,_,_,e,_⟩:=h
 rw[e]
 rfl
theorem yO:∀ vs H Q E,(aIP K) vs H Q E->vs.length=1:=by
 intro vs H Q E h
 obtain⟨_,e,_⟩:=h
 rw[e]
 rfl
theorem aAR:∀ vs H Q E,(aHD K) vs H Q E->vs.length=1:=by
 intro vs H Q E h
 obtain⟨_,e,_⟩:=h
 rw[e]
 rfl
theorem xY:∀ vs H Q E,(aHE K) vs H Q E->vs.length=3:=by
 intro vs H Q E h
 obtain⟨_,_,_,_,e,_⟩:=h
 rw[e]
 rfl
theorem aDp:∀ vs H Q E,(aEc K C_NotEven C_TooFew C_TooMany) vs H Q E->vs.length=1:=by
 intro vs H Q E h
 obtain⟨_,_,_,e,_⟩:=h
 rw[e]
 rfl
theorem uE:∀ vs H Q E,(aJS K) vs H Q E->vs.length=1:=by
 intro vs H Q E h
 obtain⟨_,e,_⟩:=h
 rw[e]
 rfl
theorem wJ:∀ vs H Q E,(aJR K) vs H Q E->vs.length=3:=by
 intro vs H Q E h
 obtain⟨_,_,_,_,_,_,_,e,_⟩:=h
 rw[e]
 rfl
theorem aEB:∀ vs H Q E,(aJE K) vs H Q E->vs.length=2:=by
 intro vs H Q E h
 obtain⟨_,_,_,_,_,e,_⟩:=h
 rw[e]
 rfl
theorem qB:∀ vs H Q E,(aJd K) vs H Q E->vs.length=1:=by
 intro vs H Q E h
 obtain⟨_,_,_,_,_,e,_⟩:=h
 rw[e]
 rfl
theorem sH:∀ vs H Q E,(aHW K) vs H Q E->vs.length=3:=by
 intro vs H Q E h
 obtain⟨_,_,_,_,_,_,_,_,e,_⟩:=h
 rw[e]
 rfl
theorem wL:∀ vs H Q E,(aJI K) vs H Q E->vs.length=5:=by
 intro vs H Q E h
 obtain⟨_,_,_,_,_,_,_,_,_,_,e,_⟩:=h
 rw[e]
 rfl
theorem aGW:∀ vs H Q E,(aIj K) vs H Q E->vs.length=4:=by
 intro vs H Q E h
 obtain⟨_,_,_,_,_,_,_,_,e,_⟩:=h
 rw[e]
 rfl
theorem yU:∀ vs H Q E,(aJO K) vs H Q E->vs.length=4:=by
 intro vs H Q E h
 obtain⟨_,_,_,_,_,_,_,_,e,_⟩:=h
 rw[e]
 rfl
theorem vX:∀ vs H Q E,(aDQ K C_NotEven C_TooFew C_TooMany) vs H Q E->vs.length=3:=by
 intro vs H Q E h
 obtain⟨_,_,_,_,_,e,_⟩:=h
 rw[e]
 rfl
theorem aAk:∀ vs H Q E,(aJM K) vs H Q E->vs.length=2:=by
 intro vs H Q E h
 obtain⟨_,_,e,_⟩:=h
 rw[e]
 rfl
theorem aBV:∀ vs H Q E,(aJe K) vs H Q E->vs.length=1:=by
 intro vs H Q E h
 obtain⟨_,_,_,e,_⟩:=h
 rw[e]
 rfl
theorem aAh:∀ vs H Q E,(aJK K) vs H Q E->vs.length=2:=by
 intro vs H Q E h
 obtain⟨_,_,_,_,_,_,e,_⟩:=h
 rw[e]
 rfl
theorem aAP:∀ vs H Q E,(aDn K C_NotEven C_TooFew C_TooMany) vs H Q E->vs.length=3:=by
 intro vs H Q E h
 obtain⟨_,_,_,_,_,e,_⟩:=h
 rw[e]
 rfl
theorem aEp:∀ vs H Q E,(aJH K) vs H Q E->vs.length=2:=by
 intro vs H Q E h
 obtain⟨_,_,e,_⟩:=h
 rw[e]
 rfl
theorem aCi:∀ vs H Q E,(aJP K) vs H Q E->vs.length=3:=by
 intro vs H Q E h
 obtain⟨_,_,_,_,_,_,e,_⟩:=h
 rw[e]
 rfl
theorem tZ:∀ vs H Q E,(aJX K C_NotEven C_TooFew C_TooMany) vs H Q E->vs.length=1:=by
 intro vs H Q E h
 obtain⟨_,_,_,e,_⟩:=h
 rw[e]
 rfl
theorem uF:∀ vs H Q E,aCF vs H Q E->vs.length=2:=by
 intro vs H Q E h
 obtain⟨_,_,e,_⟩:=h
 rw[e]
 rfl
theorem wC:∀ vs H Q E,(aBu K) vs H Q E->vs.length=1:=by
 intro vs H Q E h
 obtain⟨_,_,e,_⟩:=h
 rw[e]
 rfl
theorem xG:∀ vs H Q E,jH vs H Q E->vs.length=2:=by
 intro vs H Q E h
 obtain⟨_,_,_,_,e,_⟩:=h
 rw[e]
 rfl
theorem tQ:∀ vs H Q E,(gP K) vs H Q E->vs.length=1:=by
 intro vs H Q E h
 obtain⟨_,e,_⟩:=h
 rw[e]
 rfl
theorem uC:∀ vs H Q E,(eV K) vs H Q E->vs.length=1:=by
 intro vs H Q E h
 obtain⟨_,_,_,_,e,_⟩:=h
 rw[e]
 rfl
theorem xC:∀ vs H Q E,(aBq K) vs H Q E->vs.length=3:=by
 intro vs H Q E h
 obtain⟨_,_,_,_,_,e,_⟩:=h
 rw[e]
 rfl
theorem rM:∀ vs H Q E,(aJs K) vs H Q E->vs.length=2:=by
 intro vs H Q E h
 obtain⟨_,_,_,_,_,_,e,_⟩:=h
 rw[e]
 rfl
theorem pZ:∀ vs H Q E,(aCN K (foK K C_NotEven C_TooFew C_TooMany C_shares C_best_prices C_are_shares C_are_cuts) C_NotEven C_TooFew C_TooMany) vs H Q E->vs.length=1:=by
 intro vs H Q E h
 obtain⟨_,_,_,_,_,_,e,_⟩:=h
 rw[e]
 rfl
theorem sV:∀ vs H Q E,(aHB K C_NotEven C_TooFew C_TooMany) vs H Q E->vs.length=1:=by
 intro vs H Q E h
 obtain⟨_,_,_,_,_,e,_⟩:=h
 rw[e]
 rfl
theorem aIM:∀ vs H Q E,aEn K vs H Q E->vs.length=1:=fun vs H Q E ⟨a,ns,e,_⟩=>by rw[e];rfl
end
theorem wA {us:List Value}(h:us.length=1):∃ a0,us=[a0]:=List.length_eq_one_iff.mp h
theorem aCC {us:List Value}(h:us.length=2):∃ a0 a1,us=[a0,a1]:=by
 cases us with
 | nil=>cases h
 | cons a0 us=>
 cases us with
 | nil=>cases h
 | cons a1 us=>
 cases us with
 | nil=>exact ⟨a0,a1,rfl⟩
 | cons _ _=>simp at h
theorem aGF {us:List Value}(h:us.length=3):∃ a0 a1 a2,us=[a0,a1,a2]:=by
 cases us with
 | nil=>cases h
 | cons a0 us=>
 cases us with
 | nil=>cases h
 | cons a1 us=>
 cases us with
 | nil=>cases h
 | cons a2 us=>
 cases us with
 | nil=>exact ⟨a0,a1,a2,rfl⟩
 | cons _ _=>simp at h
theorem aLy {us:List Value}(h:us.length=4):∃ a0 a1 a2 a3,us=[a0,a1,a2,a3]:=by
 cases us with
 | nil=>cases h
 | cons a0 us=>
 cases us with
 | nil=>cases h
 | cons a1 us=>
 cases us with
 | nil=>cases h
 | cons a2 us=>
 cases us with
 | nil=>cases h
 | cons a3 us=>
 cases us with
 | nil=>exact ⟨a0,a1,a2,a3,rfl⟩
 | cons _ _=>simp at h
theorem aLT {us:List Value}(h:us.length=5):∃ a0 a1 a2 a3 a4,us=[a0,a1,a2,a3,a4]:=by
 cases us with
 | nil=>cases h
 | cons a0 us=>
 cases us with
 | nil=>cases h
 | cons a1 us=>
 cases us with
 | nil=>cases h
 | cons a2 us=>
 cases us with
 | nil=>cases h
 | cons a3 us=>
 cases us with
 | nil=>cases h
 | cons a4 us=>
 cases us with
 | nil=>exact ⟨a0,a1,a2,a3,a4,rfl⟩
 | cons _ _=>simp at h
theorem all_mk {l:PySem.W.OpenLaw}{w:World}{K:aa}{h:Heap}{mg:Str->Option Value}{fa:Addr}(X:K.In h)(G:h.Ns ar mg)(hfa:mg "law" = some (.ref fa))
  {f0:Addr} {od0 an0:Option Addr} {sl0:Array (Option Value)} {oc0 kV0 dc0 pm0 cd0 ct0:Value} (a0:au K ar "is_whole" = some (some (.ref f0))) (l0:K.lookup f0=some ⟨oc0,od0, .func (bw "is_whole" "is_whole" (bB (top 11)) (aZ (top 11)) (aJ (top 11)) .none kV0 dc0 pm0 an0 cd0 ct0),sl0⟩) (c0:bp K cd0 "is_whole" = true) (k0:bj K (.ref f0)=true)
  {f1:Addr} {od1 an1:Option Addr} {sl1:Array (Option Value)} {oc1 kV1 dc1 pm1 cd1 ct1:Value} (a1:au K ar "are_wholes" = some (some (.ref f1))) (l1:K.lookup f1=some ⟨oc1,od1, .func (bw "are_wholes" "are_wholes" (bB (top 12)) (aZ (top 12)) (aJ (top 12)) .none kV1 dc1 pm1 an1 cd1 ct1),sl1⟩) (c1:bp K cd1 "are_wholes" = true) (k1:bj K (.ref f1)=true)
  {f2:Addr} {od2 an2:Option Addr} {sl2:Array (Option Value)} {oc2 kV2 dc2 pm2 cd2 ct2:Value} (a2:au K ar "lowest" = some (some (.ref f2))) (l2:K.lookup f2=some ⟨oc2,od2, .func (bw "lowest" "lowest" (bB (top 14)) (aZ (top 14)) (aJ (top 14)) .none kV2 dc2 pm2 an2 cd2 ct2),sl2⟩) (c2:bp K cd2 "lowest" = true) (k2:bj K (.ref f2)=true)
  {f3:Addr} {od3 an3:Option Addr} {sl3:Array (Option Value)} {oc3 kV3 dc3 pm3 cd3 ct3:Value} (a3:au K ar "common_measure" = some (some (.ref f3))) (l3:K.lookup f3=some ⟨oc3,od3, .func (bw "common_measure" "common_measure" (bB (top 15)) (aZ (top 15)) (aJ (top 15)) .none kV3 dc3 pm3 an3 cd3 ct3),sl3⟩) (c3:bp K cd3 "common_measure" = true) (k3:bj K (.ref f3)=true)
  {f4:Addr} {od4 an4:Option Addr} {sl4:Array (Option Value)} {oc4 kV4 dc4 pm4 cd4 ct4:Value} (a4:au K ar "is_fraction" = some (some (.ref f4))) (l4:K.lookup f4=some ⟨oc4,od4, .func (bw "is_fraction" "is_fraction" (bB (top 16)) (aZ (top 16)) (aJ (top 16)) .none kV4 dc4 pm4 an4 cd4 ct4),sl4⟩) (c4:bp K cd4 "is_fraction" = true) (k4:bj K (.ref f4)=true)
  {f5:Addr} {od5 an5:Option Addr} {sl5:Array (Option Value)} {oc5 kV5 dc5 pm5 cd5 ct5:Value} (a5:au K ar "times" = some (some (.ref f5))) (l5:K.lookup f5=some ⟨oc5,od5, .func (bw "times" "times" (bB (top 17)) (aZ (top 17)) (aJ (top 17)) .none kV5 dc5 pm5 an5 cd5 ct5),sl5⟩) (c5:bp K cd5 "times" = true) (k5:bj K (.ref f5)=true)
  {f6:Addr} {od6 an6:Option Addr} {sl6:Array (Option Value)} {oc6 kV6 dc6 pm6 cd6 ct6:Value} (a6:au K ar "is_less" = some (some (.ref f6))) (l6:K.lookup f6=some ⟨oc6,od6, .func (bw "is_less" "is_less" (bB (top 18)) (aZ (top 18)) (aJ (top 18)) .none kV6 dc6 pm6 an6 cd6 ct6),sl6⟩) (c6:bp K cd6 "is_less" = true) (k6:bj K (.ref f6)=true)
  {f7:Addr} {od7 an7:Option Addr} {sl7:Array (Option Value)} {oc7 kV7 dc7 pm7 cd7 ct7:Value} (a7:au K ar "common_bottom" = some (some (.ref f7))) (l7:K.lookup f7=some ⟨oc7,od7, .func (bw "common_bottom" "common_bottom" (bB (top 19)) (aZ (top 19)) (aJ (top 19)) .none kV7 dc7 pm7 an7 cd7 ct7),sl7⟩) (c7:bp K cd7 "common_bottom" = true) (k7:bj K (.ref f7)=true)
  {f8:Addr} {od8 an8:Option Addr} {sl8:Array (Option Value)} {oc8 kV8 dc8 pm8 cd8 ct8:Value} (a8:au K ar "tops_over" = some (some (.ref f8))) (l8:K.lookup f8=some ⟨oc8,od8, .func (bw "tops_over" "tops_over" (bB (top 20)) (aZ (top 20)) (aJ (top 20)) .none kV8 dc8 pm8 an8 cd8 ct8),sl8⟩) (c8:bp K cd8 "tops_over" = true) (k8:bj K (.ref f8)=true)
  {f9:Addr} {od9 an9:Option Addr} {sl9:Array (Option Value)} {oc9 kV9 dc9 pm9 cd9 ct9:Value} (a9:au K ar "total" = some (some (.ref f9))) (l9:K.lookup f9=some ⟨oc9,od9, .func (bw "total" "total" (bB (top 21)) (aZ (top 21)) (aJ (top 21)) .none kV9 dc9 pm9 an9 cd9 ct9),sl9⟩) (c9:bp K cd9 "total" = true) (k9:bj K (.ref f9)=true)
  {f10:Addr} {od10 an10:Option Addr} {sl10:Array (Option Value)} {oc10 kV10 dc10 pm10 cd10 ct10:Value} (a10:au K ar "is_even" = some (some (.ref f10))) (l10:K.lookup f10=some ⟨oc10,od10, .func (bw "is_even" "is_even" (bB (top 23)) (aZ (top 23)) (aJ (top 23)) .none kV10 dc10 pm10 an10 cd10 ct10),sl10⟩) (c10:bp K cd10 "is_even" = true) (k10:bj K (.ref f10)=true)
  {f11:Addr} {od11 an11:Option Addr} {sl11:Array (Option Value)} {oc11 kV11 dc11 pm11 cd11 ct11:Value} (a11:au K ar "refuse_unfit" = some (some (.ref f11))) (l11:K.lookup f11=some ⟨oc11,od11, .func (bw "refuse_unfit" "refuse_unfit" (bB (top 28)) (aZ (top 28)) (aJ (top 28)) .none kV11 dc11 pm11 an11 cd11 ct11),sl11⟩) (c11:bp K cd11 "refuse_unfit" = true) (k11:bj K (.ref f11)=true)
  {f12:Addr} {od12 an12:Option Addr} {sl12:Array (Option Value)} {oc12 kV12 dc12 pm12 cd12 ct12:Value} (a12:au K ar "all_pairs" = some (some (.ref f12))) (l12:K.lookup f12=some ⟨oc12,od12, .func (bw "all_pairs" "all_pairs" (bB (top 29)) (aZ (top 29)) (aJ (top 29)) .none kV12 dc12 pm12 an12 cd12 ct12),sl12⟩) (c12:bp K cd12 "all_pairs" = true) (k12:bj K (.ref f12)=true)
  {f13:Addr} {od13 an13:Option Addr} {sl13:Array (Option Value)} {oc13 kV13 dc13 pm13 cd13 ct13:Value} (a13:au K ar "all_sets" = some (some (.ref f13))) (l13:K.lookup f13=some ⟨oc13,od13, .func (bw "all_sets" "all_sets" (bB (top 30)) (aZ (top 30)) (aJ (top 30)) .none kV13 dc13 pm13 an13 cd13 ct13),sl13⟩) (c13:bp K cd13 "all_sets" = true) (k13:bj K (.ref f13)=true)
  {f14:Addr} {od14 an14:Option Addr} {sl14:Array (Option Value)} {oc14 kV14 dc14 pm14 cd14 ct14:Value} (a14:au K ar "does_part" = some (some (.ref f14))) (l14:K.lookup f14=some ⟨oc14,od14, .func (bw "does_part" "does_part" (bB (top 31)) (aZ (top 31)) (aJ (top 31)) .none kV14 dc14 pm14 an14 cd14 ct14),sl14⟩) (c14:bp K cd14 "does_part" = true) (k14:bj K (.ref f14)=true)
  {f15:Addr} {od15 an15:Option Addr} {sl15:Array (Option Value)} {oc15 kV15 dc15 pm15 cd15 ct15:Value} (a15:au K ar "shares" = some (some (.ref f15))) (l15:K.lookup f15=some ⟨oc15,od15, .func (bw "shares" "shares" (bB (top 32)) (aZ (top 32)) (aJ (top 32)) .none kV15 dc15 pm15 an15 cd15 ct15),sl15⟩) (c15:bp K cd15 "shares" = true) (k15:bj K (.ref f15)=true)
  {f16:Addr} {od16 an16:Option Addr} {sl16:Array (Option Value)} {oc16 kV16 dc16 pm16 cd16 ct16:Value} (a16:au K ar "price_steps" = some (some (.ref f16))) (l16:K.lookup f16=some ⟨oc16,od16, .func (bw "price_steps" "price_steps" (bB (top 33)) (aZ (top 33)) (aJ (top 33)) .none kV16 dc16 pm16 an16 cd16 ct16),sl16⟩) (c16:bp K cd16 "price_steps" = true) (k16:bj K (.ref f16)=true)
  {f17:Addr} {od17 an17:Option Addr} {sl17:Array (Option Value)} {oc17 kV17 dc17 pm17 cd17 ct17:Value} (a17:au K ar "first_rows" = some (some (.ref f17))) (l17:K.lookup f17=some ⟨oc17,od17, .func (bw "first_rows" "first_rows" (bB (top 34)) (aZ (top 34)) (aJ (top 34)) .none kV17 dc17 pm17 an17 cd17 ct17),sl17⟩) (c17:bp K cd17 "first_rows" = true) (k17:bj K (.ref f17)=true)
  {f18:Addr} {od18 an18:Option Addr} {sl18:Array (Option Value)} {oc18 kV18 dc18 pm18 cd18 ct18:Value} (a18:au K ar "climb" = some (some (.ref f18))) (l18:K.lookup f18=some ⟨oc18,od18, .func (bw "climb" "climb" (bB (top 35)) (aZ (top 35)) (aJ (top 35)) .none kV18 dc18 pm18 an18 cd18 ct18),sl18⟩) (c18:bp K cd18 "climb" = true) (k18:bj K (.ref f18)=true)
  {f19:Addr} {od19 an19:Option Addr} {sl19:Array (Option Value)} {oc19 kV19 dc19 pm19 cd19 ct19:Value} (a19:au K ar "rising_column" = some (some (.ref f19))) (l19:K.lookup f19=some ⟨oc19,od19, .func (bw "rising_column" "rising_column" (bB (top 36)) (aZ (top 36)) (aJ (top 36)) .none kV19 dc19 pm19 an19 cd19 ct19),sl19⟩) (c19:bp K cd19 "rising_column" = true) (k19:bj K (.ref f19)=true)
  {f20:Addr} {od20 an20:Option Addr} {sl20:Array (Option Value)} {oc20 kV20 dc20 pm20 cd20 ct20:Value} (a20:au K ar "tightest_row" = some (some (.ref f20))) (l20:K.lookup f20=some ⟨oc20,od20, .func (bw "tightest_row" "tightest_row" (bB (top 37)) (aZ (top 37)) (aJ (top 37)) .none kV20 dc20 pm20 an20 cd20 ct20),sl20⟩) (c20:bp K cd20 "tightest_row" = true) (k20:bj K (.ref f20)=true)
  {f21:Addr} {od21 an21:Option Addr} {sl21:Array (Option Value)} {oc21 kV21 dc21 pm21 cd21 ct21:Value} (a21:au K ar "is_tighter" = some (some (.ref f21))) (l21:K.lookup f21=some ⟨oc21,od21, .func (bw "is_tighter" "is_tighter" (bB (top 38)) (aZ (top 38)) (aJ (top 38)) .none kV21 dc21 pm21 an21 cd21 ct21),sl21⟩) (c21:bp K cd21 "is_tighter" = true) (k21:bj K (.ref f21)=true)
  {f22:Addr} {od22 an22:Option Addr} {sl22:Array (Option Value)} {oc22 kV22 dc22 pm22 cd22 ct22:Value} (a22:au K ar "turn" = some (some (.ref f22))) (l22:K.lookup f22=some ⟨oc22,od22, .func (bw "turn" "turn" (bB (top 39)) (aZ (top 39)) (aJ (top 39)) .none kV22 dc22 pm22 an22 cd22 ct22),sl22⟩) (c22:bp K cd22 "turn" = true) (k22:bj K (.ref f22)=true)
  {f23:Addr} {od23 an23:Option Addr} {sl23:Array (Option Value)} {oc23 kV23 dc23 pm23 cd23 ct23:Value} (a23:au K ar "told_cuts" = some (some (.ref f23))) (l23:K.lookup f23=some ⟨oc23,od23, .func (bw "told_cuts" "told_cuts" (bB (top 40)) (aZ (top 40)) (aJ (top 40)) .none kV23 dc23 pm23 an23 cd23 ct23),sl23⟩) (c23:bp K cd23 "told_cuts" = true) (k23:bj K (.ref f23)=true)
  {f24:Addr} {od24 an24:Option Addr} {sl24:Array (Option Value)} {oc24 kV24 dc24 pm24 cd24 ct24:Value} (a24:au K ar "are_shares" = some (some (.ref f24))) (l24:K.lookup f24=some ⟨oc24,od24, .func (bw "are_shares" "are_shares" (bB (top 41)) (aZ (top 41)) (aJ (top 41)) .none kV24 dc24 pm24 an24 cd24 ct24),sl24⟩) (c24:bp K cd24 "are_shares" = true) (k24:bj K (.ref f24)=true)
  {f25:Addr} {od25 an25:Option Addr} {sl25:Array (Option Value)} {oc25 kV25 dc25 pm25 cd25 ct25:Value} (a25:au K ar "is_share" = some (some (.ref f25))) (l25:K.lookup f25=some ⟨oc25,od25, .func (bw "is_share" "is_share" (bB (top 42)) (aZ (top 42)) (aJ (top 42)) .none kV25 dc25 pm25 an25 cd25 ct25),sl25⟩) (c25:bp K cd25 "is_share" = true) (k25:bj K (.ref f25)=true)
  {f26:Addr} {od26 an26:Option Addr} {sl26:Array (Option Value)} {oc26 kV26 dc26 pm26 cd26 ct26:Value} (a26:au K ar "do_rise" = some (some (.ref f26))) (l26:K.lookup f26=some ⟨oc26,od26, .func (bw "do_rise" "do_rise" (bB (top 43)) (aZ (top 43)) (aJ (top 43)) .none kV26 dc26 pm26 an26 cd26 ct26),sl26⟩) (c26:bp K cd26 "do_rise" = true) (k26:bj K (.ref f26)=true)
  {f27:Addr} {od27 an27:Option Addr} {sl27:Array (Option Value)} {oc27 kV27 dc27 pm27 cd27 ct27:Value} (a27:au K ar "over_cut" = some (some (.ref f27))) (l27:K.lookup f27=some ⟨oc27,od27, .func (bw "over_cut" "over_cut" (bB (top 44)) (aZ (top 44)) (aJ (top 44)) .none kV27 dc27 pm27 an27 cd27 ct27),sl27⟩) (c27:bp K cd27 "over_cut" = true) (k27:bj K (.ref f27)=true)
  {f28:Addr} {od28 an28:Option Addr} {sl28:Array (Option Value)} {oc28 kV28 dc28 pm28 cd28 ct28:Value} (a28:au K ar "are_cuts" = some (some (.ref f28))) (l28:K.lookup f28=some ⟨oc28,od28, .func (bw "are_cuts" "are_cuts" (bB (top 45)) (aZ (top 45)) (aJ (top 45)) .none kV28 dc28 pm28 an28 cd28 ct28),sl28⟩) (c28:bp K cd28 "are_cuts" = true) (k28:bj K (.ref f28)=true)
  {f29:Addr} {od29 an29:Option Addr} {sl29:Array (Option Value)} {oc29 kV29 dc29 pm29 cd29 ct29:Value} (a29:au K ar "is_cut" = some (some (.ref f29))) (l29:K.lookup f29=some ⟨oc29,od29, .func (bw "is_cut" "is_cut" (bB (top 46)) (aZ (top 46)) (aJ (top 46)) .none kV29 dc29 pm29 an29 cd29 ct29),sl29⟩) (c29:bp K cd29 "is_cut" = true) (k29:bj K (.ref f29)=true)
  {f30:Addr} {od30 an30:Option Addr} {sl30:Array (Option Value)} {oc30 kV30 dc30 pm30 cd30 ct30:Value} (a30:au K ar "between" = some (some (.ref f30))) (l30:K.lookup f30=some ⟨oc30,od30, .func (bw "between" "between" (bB (top 47)) (aZ (top 47)) (aJ (top 47)) .none kV30 dc30 pm30 an30 cd30 ct30),sl30⟩) (c30:bp K cd30 "between" = true) (k30:bj K (.ref f30)=true)
  {f31:Addr} {od31 an31:Option Addr} {sl31:Array (Option Value)} {oc31 kV31 dc31 pm31 cd31 ct31:Value} (a31:au K ar "best_prices" = some (some (.ref f31))) (l31:K.lookup f31=some ⟨oc31,od31, .func (bw "best_prices" "best_prices" (bB (top 48)) (aZ (top 48)) (aJ (top 48)) .none kV31 dc31 pm31 an31 cd31 ct31),sl31⟩) (c31:bp K cd31 "best_prices" = true) (k31:bj K (.ref f31)=true)
  {f32:Addr} {od32 an32:Option Addr} {sl32:Array (Option Value)} {oc32 kV32 dc32 pm32 cd32 ct32:Value} (a32:au K ar "_law_cmixed" = some (some (.ref f32))) (l32:K.lookup f32=some ⟨oc32,od32, .func (bw "_law_cmixed" "_law_cmixed" (bB (top 50)) (aZ (top 50)) (aJ (top 50)) .none kV32 dc32 pm32 an32 cd32 ct32),sl32⟩) (c32:bp K cd32 "_law_cmixed" = true) (k32:bj K (.ref f32)=true)
  {f33:Addr} {od33 an33:Option Addr} {sl33:Array (Option Value)} {oc33 kV33 dc33 pm33 cd33 ct33:Value} (a33:au K ar "_law_copen" = some (some (.ref f33))) (l33:K.lookup f33=some ⟨oc33,od33, .func (bw "_law_copen" "_law_copen" (bB (top 51)) (aZ (top 51)) (aJ (top 51)) .none kV33 dc33 pm33 an33 cd33 ct33),sl33⟩) (c33:bp K cd33 "_law_copen" = true) (k33:bj K (.ref f33)=true)
  {f34:Addr} {od34 an34:Option Addr} {sl34:Array (Option Value)} {oc34 kV34 dc34 pm34 cd34 ct34:Value} (a34:au K ar "_law_cdraw" = some (some (.ref f34))) (l34:K.lookup f34=some ⟨oc34,od34, .func (bw "_law_cdraw" "_law_cdraw" (bB (top 52)) (aZ (top 52)) (aJ (top 52)) .none kV34 dc34 pm34 an34 cd34 ct34),sl34⟩) (c34:bp K cd34 "_law_cdraw" = true) (k34:bj K (.ref f34)=true)
  {f35:Addr} {od35 an35:Option Addr} {sl35:Array (Option Value)} {oc35 kV35 dc35 pm35 cd35 ct35:Value} (a35:au K ar "_law_cpairs" = some (some (.ref f35))) (l35:K.lookup f35=some ⟨oc35,od35, .func (bw "_law_cpairs" "_law_cpairs" (bB (top 53)) (aZ (top 53)) (aJ (top 53)) .none kV35 dc35 pm35 an35 cd35 ct35),sl35⟩) (c35:bp K cd35 "_law_cpairs" = true) (k35:bj K (.ref f35)=true)
  {f36:Addr} {od36 an36:Option Addr} {sl36:Array (Option Value)} {oc36 kV36 dc36 pm36 cd36 ct36:Value} (a36:au K ar "_law_cshort" = some (some (.ref f36))) (l36:K.lookup f36=some ⟨oc36,od36, .func (bw "_law_cshort" "_law_cshort" (bB (top 54)) (aZ (top 54)) (aJ (top 54)) .none kV36 dc36 pm36 an36 cd36 ct36),sl36⟩) (c36:bp K cd36 "_law_cshort" = true) (k36:bj K (.ref f36)=true)
  {f37:Addr} {od37 an37:Option Addr} {sl37:Array (Option Value)} {oc37 kV37 dc37 pm37 cd37 ct37:Value} (a37:au K ar "_law_ceven" = some (some (.ref f37))) (l37:K.lookup f37=some ⟨oc37,od37, .func (bw "_law_ceven" "_law_ceven" (bB (top 55)) (aZ (top 55)) (aJ (top 55)) .none kV37 dc37 pm37 an37 cd37 ct37),sl37⟩) (c37:bp K cd37 "_law_ceven" = true) (k37:bj K (.ref f37)=true)
  {f38:Addr} {od38 an38:Option Addr} {sl38:Array (Option Value)} {oc38 kV38 dc38 pm38 cd38 ct38:Value} (a38:au K ar "_law_cuneven" = some (some (.ref f38))) (l38:K.lookup f38=some ⟨oc38,od38, .func (bw "_law_cuneven" "_law_cuneven" (bB (top 56)) (aZ (top 56)) (aJ (top 56)) .none kV38 dc38 pm38 an38 cd38 ct38),sl38⟩) (c38:bp K cd38 "_law_cuneven" = true) (k38:bj K (.ref f38)=true)
  {f39:Addr} {od39 an39:Option Addr} {sl39:Array (Option Value)} {oc39 kV39 dc39 pm39 cd39 ct39:Value} (a39:au K ar "_law_crefused" = some (some (.ref f39))) (l39:K.lookup f39=some ⟨oc39,od39, .func (bw "_law_crefused" "_law_crefused" (bB (top 57)) (aZ (top 57)) (aJ (top 57)) .none kV39 dc39 pm39 an39 cd39 ct39),sl39⟩) (c39:bp K cd39 "_law_crefused" = true) (k39:bj K (.ref f39)=true)
  {f40:Addr} {od40 an40:Option Addr} {sl40:Array (Option Value)} {oc40 kV40 dc40 pm40 cd40 ct40:Value} (a40:au K ar "_law_c_words" = some (some (.ref f40))) (l40:K.lookup f40=some ⟨oc40,od40, .func (bw "_law_c_words" "_law_c_words" (bB (top 58)) (aZ (top 58)) (aJ (top 58)) .none kV40 dc40 pm40 an40 cd40 ct40),sl40⟩) (c40:bp K cd40 "_law_c_words" = true) (k40:bj K (.ref f40)=true)
  {f41:Addr} {od41 an41:Option Addr} {sl41:Array (Option Value)} {oc41 kV41 dc41 pm41 cd41 ct41:Value} (a41:au K ar "law" = some (some (.ref f41))) (l41:K.lookup f41=some ⟨oc41,od41, .func (bw "law" "law" (bB (top 59)) (aZ (top 59)) (aJ (top 59)) .none kV41 dc41 pm41 an41 cd41 ct41),sl41⟩) (c41:bp K cd41 "law" = true) (k41:bj K (.ref f41)=true)
  (z_len:au K ar "len" = some none)
  (z_all:au K ar "all" = some none)
  (z_min:au K ar "min" = some none)
  (z_max:au K ar "max" = some none)
  (z_sum:au K ar "sum" = some none)
  (z_isinstance:au K ar "isinstance" = some none)
  (z_sorted:au K ar "sorted" = some none)
  (z_tuple:au K ar "tuple" = some none)
  (z_list:au K ar "list" = some none)
  (z_range:au K ar "range" = some none)
  (z_int:au K ar "int" = some none)
  (z_bool:au K ar "bool" = some none)
  (z_zip:au K ar "zip" = some none)
  (z_repr:au K ar "repr" = some none)
  (z_enumerate:au K ar "enumerate" = some none)
  (z_reversed:au K ar "reversed" = some none)
  (z_str:au K ar "str" = some none)
  (z_set:au K ar "set" = some none)
  (z_abs:au K ar "abs" = some none)
  {tk_LEAST_PLACES:Tok} (g_LEAST_PLACES:au K ar "LEAST_PLACES" = some (some (.int 3 tk_LEAST_PLACES)))
  {tk_MOST_PLACES:Tok} (g_MOST_PLACES:au K ar "MOST_PLACES" = some (some (.int 6 tk_MOST_PLACES)))
  {C_NoBack:Addr} (ac_NoBack:au K ar "NoBack" = some (some (.ref C_NoBack)))
  {C_NoRow:Addr} (ac_NoRow:au K ar "NoRow" = some (some (.ref C_NoRow)))
  {C_NoTable:Addr} (ac_NoTable:au K ar "NoTable" = some (some (.ref C_NoTable)))
  {C_NoText:Addr} (ac_NoText:au K ar "NoText" = some (some (.ref C_NoText)))
  {C_NotEven:Addr} (ac_NotEven:au K ar "NotEven" = some (some (.ref C_NotEven)))
  {C_NotStraight:Addr} (ac_NotStraight:au K ar "NotStraight" = some (some (.ref C_NotStraight)))
  {C_RoundError:Addr} (ac_RoundError:au K ar "RoundError" = some (some (.ref C_RoundError)))
  {C_TWO:Addr} (ac_TWO:au K ar "TWO" = some (some (.ref C_TWO)))
  {C_TooFew:Addr} (ac_TooFew:au K ar "TooFew" = some (some (.ref C_TooFew)))
  {C_TooMany:Addr} (ac_TooMany:au K ar "TooMany" = some (some (.ref C_TooMany)))
  {C_are_cuts:Addr} (ac_are_cuts:au K ar "are_cuts" = some (some (.ref C_are_cuts)))
  {C_are_shares:Addr} (ac_are_shares:au K ar "are_shares" = some (some (.ref C_are_shares)))
  {C_best_prices:Addr} (ac_best_prices:au K ar "best_prices" = some (some (.ref C_best_prices)))
  {C_shares:Addr} (ac_shares:au K ar "shares" = some (some (.ref C_shares)))
  (XC_NotEven:jj K C_NotEven aFQ "ValueError.__new__" = true)
  (XC_TooFew:jj K C_TooFew aFQ "ValueError.__new__" = true)
  (XC_TooMany:jj K C_TooMany aFQ "ValueError.__new__" = true)
  (z_ValueError:au K ar "ValueError" = some none)
  (z_any:au K ar "any" = some none)
  {nS:Nat} {slS:Array (Option Value)} {tS tT:Tok}
  (xE_ga:ic K (.ref C_NotEven) "__getattribute__" = some (some (.builtin "BaseException.__getattribute__")))
  (xE_gn:ic K (.ref C_NotEven) "__getattr__" = some none)
  (xE_cl:ic K (.ref C_NotEven) "__class__" = some (some (.builtin "object.__class__")))
  (xE_gt:o3 K (.builtin "object.__class__") "__get__" = some (some (.builtin "getset_descriptor.__get__")))
  (xE_tk:qv K (.builtin "object.__class__")=some true)
  (xE_ob:qj K C_NotEven (.type "object")=some true)
  (xE_bx:u3 K (.ref C_NotEven) (.type "BaseException")=some true)
  (xE_is:(nr K C_NotEven).isSome=true)
  (hE:jm K (.ref C_NotEven) (.ref C_RoundError)=some true)
  (oE:lh K (.ref C_NotEven) [.ref C_NoBack, .ref C_NoRow, .ref C_NoTable, .ref C_NoText]=some false)
  (vE:cq K (.ref C_NotEven) (.type "ValueError")=some true)
  (eE:cq K (.ref C_NotEven) (.ref C_NotEven)=some true)
  (sE:cq K (.ref C_NotEven) (.ref C_NotStraight)=some false)
  (fE:cq K (.ref C_NotEven) (.ref C_TooFew)=some false)
  (mE:cq K (.ref C_NotEven) (.ref C_TooMany)=some false)
  (xF_ga:ic K (.ref C_TooFew) "__getattribute__" = some (some (.builtin "BaseException.__getattribute__")))
  (xF_gn:ic K (.ref C_TooFew) "__getattr__" = some none)
  (xF_cl:ic K (.ref C_TooFew) "__class__" = some (some (.builtin "object.__class__")))
  (xF_gt:o3 K (.builtin "object.__class__") "__get__" = some (some (.builtin "getset_descriptor.__get__")))
  (xF_tk:qv K (.builtin "object.__class__")=some true)
  (xF_ob:qj K C_TooFew (.type "object")=some true)
  (xF_bx:u3 K (.ref C_TooFew) (.type "BaseException")=some true)
  (xF_is:(nr K C_TooFew).isSome=true)
  (hF:jm K (.ref C_TooFew) (.ref C_RoundError)=some true)
  (oF:lh K (.ref C_TooFew) [.ref C_NoBack, .ref C_NoRow, .ref C_NoTable, .ref C_NoText]=some false)
  (vF:cq K (.ref C_TooFew) (.type "ValueError")=some true)
  (eF:cq K (.ref C_TooFew) (.ref C_NotEven)=some false)
  (sF:cq K (.ref C_TooFew) (.ref C_NotStraight)=some false)
  (fF:cq K (.ref C_TooFew) (.ref C_TooFew)=some true)
  (mF:cq K (.ref C_TooFew) (.ref C_TooMany)=some false)
  (xM_ga:ic K (.ref C_TooMany) "__getattribute__" = some (some (.builtin "BaseException.__getattribute__")))
  (xM_gn:ic K (.ref C_TooMany) "__getattr__" = some none)
  (xM_cl:ic K (.ref C_TooMany) "__class__" = some (some (.builtin "object.__class__")))
  (xM_gt:o3 K (.builtin "object.__class__") "__get__" = some (some (.builtin "getset_descriptor.__get__")))
  (xM_tk:qv K (.builtin "object.__class__")=some true)
  (xM_ob:qj K C_TooMany (.type "object")=some true)
  (xM_bx:u3 K (.ref C_TooMany) (.type "BaseException")=some true)
  (xM_is:(nr K C_TooMany).isSome=true)
  (hM:jm K (.ref C_TooMany) (.ref C_RoundError)=some true)
  (oM:lh K (.ref C_TooMany) [.ref C_NoBack, .ref C_NoRow, .ref C_NoTable, .ref C_NoText]=some false)
  (vM:cq K (.ref C_TooMany) (.type "ValueError")=some true)
  (eM:cq K (.ref C_TooMany) (.ref C_NotEven)=some false)
  (sM:cq K (.ref C_TooMany) (.ref C_NotStraight)=some false)
  (fM:cq K (.ref C_TooMany) (.ref C_TooFew)=some false)
  (mM:cq K (.ref C_TooMany) (.ref C_TooMany)=some true)
  (lT2:K.lookup C_TWO=some ⟨.type "tuple",none, .seq #[.int 2 tS, .int 1 tT] nS,slS⟩) :
  ∃ fd:FuncData,(∀ (s:Shared) (v:Value),za s fd ⟨[v],[]⟩ [("script",v)])/\∀ base:Heap,K.In base->base.Ns ar mg->FnOk l.prog w K mg base CX0 8 fa fd ["script"] (aEn K):=by
 have e:=hfa.symm.trans (bc X G a41)
 cases e
 have B:iC mg:=⟨⟨⟨⟨de X G z_len,de X G z_all,de X G z_min,de X G z_max,de X G z_sum,de X G z_isinstance,de X G z_sorted,de X G z_tuple,de X G z_list,de X G z_range,de X G z_int,de X G z_bool⟩,de X G z_zip,de X G z_repr,de X G z_enumerate,de X G z_reversed,de X G z_str⟩,de X G z_set⟩,de X G z_abs⟩
 have G_LEAST_PLACES:=bc X G g_LEAST_PLACES
 have G_MOST_PLACES:=bc X G g_MOST_PLACES
 have GC_NoBack:=bc X G ac_NoBack
 have GC_NoRow:=bc X G ac_NoRow
 have GC_NoTable:=bc X G ac_NoTable
 have GC_NoText:=bc X G ac_NoText
 have GC_NotEven:=bc X G ac_NotEven
 have GC_NotStraight:=bc X G ac_NotStraight
 have GC_RoundError:=bc X G ac_RoundError
 have GC_TWO:=bc X G ac_TWO
 have GC_TooFew:=bc X G ac_TooFew
 have GC_TooMany:=bc X G ac_TooMany
 have GC_are_cuts:=bc X G ac_are_cuts
 have GC_are_shares:=bc X G ac_are_shares
 have GC_best_prices:=bc X G ac_best_prices
 have GC_shares:=bc X G ac_shares
 have GV:=de X G z_ValueError
 have GA:=de X G z_any
 have kx:Kx K C_NoBack C_NoRow C_NoTable C_NoText C_NotEven C_NotStraight C_RoundError C_TooFew C_TooMany:=⟨⟨xE_ga,xE_gn,xE_cl,xE_gt,xE_tk,xE_ob,xE_bx,xE_is⟩,hE,oE,vE,eE,sE,fE,mE,⟨xF_ga,xF_gn,xF_cl,xF_gt,xF_tk,xF_ob,xF_bx,xF_is⟩,hF,oF,vF,eF,sF,fF,mF,⟨xM_ga,xM_gn,xM_cl,xM_gt,xM_tk,xM_ob,xM_bx,xM_is⟩,hM,oM,vM,eM,sM,fM,mM⟩
 have hT2:∀ H:Hp,Fr K H C_TWO 2 1:=fun H => .inr ⟨_,_,_,lT2,rfl,rfl,rfl,by show 2<=ba;decide, .cons ⟨_,rfl⟩ (.cons ⟨_,rfl⟩ .nil)⟩
 have F0:=bY (st:=top 11) l0 c0 k0
 have b0:=F0.binds (ps:=["thing"]) fun _ _ _ _ _ _ us hl=>by obtain⟨_,rfl⟩:=wA hl;rfl
 have F1:=bY (st:=top 12) l1 c1 k1
 have b1:=F1.binds (ps:=["thing"]) fun _ _ _ _ _ _ us hl=>by obtain⟨_,rfl⟩:=wA hl;rfl
 have F2:=bY (st:=top 14) l2 c2 k2
 have b2:=F2.binds (ps:=["top","bottom"]) fun _ _ _ _ _ _ us hl=>by obtain⟨_,_,rfl⟩:=aCC hl;rfl
 have F3:=bY (st:=top 15) l3 c3 k3
 have b3:=F3.binds (ps:=["one","other"]) fun _ _ _ _ _ _ us hl=>by obtain⟨_,_,rfl⟩:=aCC hl;rfl
 have F4:=bY (st:=top 16) l4 c4 k4
 have b4:=F4.binds (ps:=["thing"]) fun _ _ _ _ _ _ us hl=>by obtain⟨_,rfl⟩:=wA hl;rfl
 have F5:=bY (st:=top 17) l5 c5 k5
 have b5:=F5.binds (ps:=["one","other"]) fun _ _ _ _ _ _ us hl=>by obtain⟨_,_,rfl⟩:=aCC hl;rfl
 have F6:=bY (st:=top 18) l6 c6 k6
 have b6:=F6.binds (ps:=["one","other"]) fun _ _ _ _ _ _ us hl=>by obtain⟨_,_,rfl⟩:=aCC hl;rfl
 have F7:=bY (st:=top 19) l7 c7 k7
 have b7:=F7.binds (ps:=["some"]) fun _ _ _ _ _ _ us hl=>by obtain⟨_,rfl⟩:=wA hl;rfl
 have F8:=bY (st:=top 20) l8 c8 k8
 have b8:=F8.binds (ps:=["some","bottom"]) fun _ _ _ _ _ _ us hl=>by obtain⟨_,_,rfl⟩:=aCC hl;rfl
 have F9:=bY (st:=top 21) l9 c9 k9
 have b9:=F9.binds (ps:=["some"]) fun _ _ _ _ _ _ us hl=>by obtain⟨_,rfl⟩:=wA hl;rfl
 have F10:=bY (st:=top 23) l10 c10 k10
 have b10:=F10.binds (ps:=["table"]) fun _ _ _ _ _ _ us hl=>by obtain⟨_,rfl⟩:=wA hl;rfl
 have F11:=bY (st:=top 28) l11 c11 k11
 have b11:=F11.binds (ps:=["table"]) fun _ _ _ _ _ _ us hl=>by obtain⟨_,rfl⟩:=wA hl;rfl
 have F12:=bY (st:=top 29) l12 c12 k12
 have b12:=F12.binds (ps:=["many"]) fun _ _ _ _ _ _ us hl=>by obtain⟨_,rfl⟩:=wA hl;rfl
 have F13:=bY (st:=top 30) l13 c13 k13
 have b13:=F13.binds (ps:=["many"]) fun _ _ _ _ _ _ us hl=>by obtain⟨_,rfl⟩:=wA hl;rfl
 have F14:=bY (st:=top 31) l14 c14 k14
 have b14:=F14.binds (ps:=["some","i","j"]) fun _ _ _ _ _ _ us hl=>by obtain⟨_,_,_,rfl⟩:=aGF hl;rfl
 have F15:=bY (st:=top 32) l15 c15 k15
 have b15:=F15.binds (ps:=["table"]) fun _ _ _ _ _ _ us hl=>by obtain⟨_,rfl⟩:=wA hl;rfl
 have F16:=bY (st:=top 33) l16 c16 k16
 have b16:=F16.binds (ps:=["many"]) fun _ _ _ _ _ _ us hl=>by obtain⟨_,rfl⟩:=wA hl;rfl
 have F17:=bY (st:=top 34) l17 c17 k17
 have b17:=F17.binds (ps:=["table","pairs","steps"]) fun _ _ _ _ _ _ us hl=>by obtain⟨_,_,_,rfl⟩:=aGF hl;rfl
 have F18:=bY (st:=top 35) l18 c18 k18
 have b18:=F18.binds (ps:=["rows","held"]) fun _ _ _ _ _ _ us hl=>by obtain⟨_,_,rfl⟩:=aCC hl;rfl
 have F19:=bY (st:=top 36) l19 c19 k19
 have b19:=F19.binds (ps:=["rows"]) fun _ _ _ _ _ _ us hl=>by obtain⟨_,rfl⟩:=wA hl;rfl
 have F20:=bY (st:=top 37) l20 c20 k20
 have b20:=F20.binds (ps:=["rows","held","column"]) fun _ _ _ _ _ _ us hl=>by obtain⟨_,_,_,rfl⟩:=aGF hl;rfl
 have F21:=bY (st:=top 38) l21 c21 k21
 have b21:=F21.binds (ps:=["rows","held","column","at","other"]) fun _ _ _ _ _ _ us hl=>by obtain⟨_,_,_,_,_,rfl⟩:=aLT hl;rfl
 have F22:=bY (st:=top 39) l22 c22 k22
 have b22:=F22.binds (ps:=["rows","at","column","bottom"]) fun _ _ _ _ _ _ us hl=>by obtain⟨_,_,_,_,rfl⟩:=aLy hl;rfl
 have F23:=bY (st:=top 40) l23 c23 k23
 have b23:=F23.binds (ps:=["steps","rows","held","bottom"]) fun _ _ _ _ _ _ us hl=>by obtain⟨_,_,_,_,rfl⟩:=aLy hl;rfl
 have F24:=bY (st:=top 41) l24 c24 k24
 have b24:=F24.binds (ps:=["table","some","worth"]) fun _ _ _ _ _ _ us hl=>by obtain⟨_,_,_,rfl⟩:=aGF hl;rfl
 have F25:=bY (st:=top 42) l25 c25 k25
 have b25:=F25.binds (ps:=["many","thing"]) fun _ _ _ _ _ _ us hl=>by obtain⟨_,_,rfl⟩:=aCC hl;rfl
 have F26:=bY (st:=top 43) l26 c26 k26
 have b26:=F26.binds (ps:=["some"]) fun _ _ _ _ _ _ us hl=>by obtain⟨_,rfl⟩:=wA hl;rfl
 have F27:=bY (st:=top 44) l27 c27 k27
 have b27:=F27.binds (ps:=["some","cut"]) fun _ _ _ _ _ _ us hl=>by obtain⟨_,_,rfl⟩:=aCC hl;rfl
 have F28:=bY (st:=top 45) l28 c28 k28
 have b28:=F28.binds (ps:=["table","some","worth"]) fun _ _ _ _ _ _ us hl=>by obtain⟨_,_,_,rfl⟩:=aGF hl;rfl
 have F29:=bY (st:=top 46) l29 c29 k29
 have b29:=F29.binds (ps:=["many","thing"]) fun _ _ _ _ _ _ us hl=>by obtain⟨_,_,rfl⟩:=aCC hl;rfl
 have F30:=bY (st:=top 47) l30 c30 k30
 have b30:=F30.binds (ps:=["some","i","j"]) fun _ _ _ _ _ _ us hl=>by obtain⟨_,_,_,rfl⟩:=aGF hl;rfl
 have F31:=bY (st:=top 48) l31 c31 k31
 have b31:=F31.binds (ps:=["table"]) fun _ _ _ _ _ _ us hl=>by obtain⟨_,rfl⟩:=wA hl;rfl
 have F32:=bY (st:=top 50) l32 c32 k32
 have b32:=F32.binds (ps:=["cell","at"]) fun _ _ _ _ _ _ us hl=>by obtain⟨_,_,rfl⟩:=aCC hl;rfl
 have F33:=bY (st:=top 51) l33 c33 k33
 have b33:=F33.binds (ps:=["script"]) fun _ _ _ _ _ _ us hl=>by obtain⟨_,rfl⟩:=wA hl;rfl
 have F34:=bY (st:=top 52) l34 c34 k34
 have b34:=F34.binds (ps:=["feed","many"]) fun _ _ _ _ _ _ us hl=>by obtain⟨_,_,rfl⟩:=aCC hl;rfl
 have F35:=bY (st:=top 53) l35 c35 k35
 have b35:=F35.binds (ps:=["many"]) fun _ _ _ _ _ _ us hl=>by obtain⟨_,rfl⟩:=wA hl;rfl
 have F36:=bY (st:=top 54) l36 c36 k36
 have b36:=F36.binds (ps:=["rows"]) fun _ _ _ _ _ _ us hl=>by obtain⟨_,rfl⟩:=wA hl;rfl
 have F37:=bY (st:=top 55) l37 c37 k37
 have b37:=F37.binds (ps:=["feed","least","most"]) fun _ _ _ _ _ _ us hl=>by obtain⟨_,_,_,rfl⟩:=aGF hl;rfl
 have F38:=bY (st:=top 56) l38 c38 k38
 have b38:=F38.binds (ps:=["feed","table"]) fun _ _ _ _ _ _ us hl=>by obtain⟨_,_,rfl⟩:=aCC hl;rfl
 have F39:=bY (st:=top 57) l39 c39 k39
 have b39:=F39.binds (ps:=["act"]) fun _ _ _ _ _ _ us hl=>by obtain⟨_,rfl⟩:=wA hl;rfl
 have F40:=bY (st:=top 58) l40 c40 k40
 have b40:=F40.binds (ps:=["table"]) fun _ _ _ _ _ _ us hl=>by obtain⟨_,rfl⟩:=wA hl;rfl
 have F41:=bY (st:=top 59) l41 c41 k41
 refine ⟨bw "law" "law" (bB (top 59)) (aZ (top 59)) (aJ (top 59)) .none kV41 dc41 pm41 an41 cd41 ct41,fun s v => .of_eq rfl,fun base _ _=>?_⟩
 have oS:Def l.prog w K mg base "is_whole" 1 ["thing"] (K40.L.spW K):=⟨f0,_,aAD (P:=l.prog) (w:=w) (base:=base) F0 B   aAn (K40.L.rd_whole),bc X G a0,k0,b0⟩
 have bX:Def l.prog w K mg base "common_measure" 1 ["one","other"] (aHF):=⟨f3,_,oG (P:=l.prog) (w:=w) (base:=base) F3 B   oI (aKz),bc X G a3,k3,b3⟩
 have iQ:Def l.prog w K mg base "is_less" 1 ["one","other"] (aIF K):=⟨f6,_,aCm (P:=l.prog) (w:=w) (base:=base) F6 B   aCf (aKH),bc X G a6,k6,b6⟩
 have lV:Def l.prog w K mg base "tops_over" 1 ["some","bottom"] (aJF K):=⟨f8,_,zG (P:=l.prog) (w:=w) (base:=base) F8 B   xV (aKy),bc X G a8,k8,b8⟩
 have tG:Def l.prog w K mg base "is_even" 1 ["table"] (aKf K):=⟨f10,_,aCy (P:=l.prog) (w:=w) (base:=base) F10 B   aCq (aGv),bc X G a10,k10,b10⟩
 have fO:Def l.prog w K mg base "all_pairs" 1 ["many"] (aIP K):=⟨f12,_,zI (P:=l.prog) (w:=w) (base:=base) F12 B   yO (aKL),bc X G a12,k12,b12⟩
 have eB:Def l.prog w K mg base "all_sets" 1 ["many"] (aHD K):=⟨f13,_,aAI (P:=l.prog) (w:=w) (base:=base) F13 B   aAR (aKm),bc X G a13,k13,b13⟩
 have dN:Def l.prog w K mg base "does_part" 1 ["some","i","j"] (aHE K):=⟨f14,_,yR (P:=l.prog) (w:=w) (base:=base) F14 B   xY (aKc),bc X G a14,k14,b14⟩
 have fA:Def l.prog w K mg base "rising_column" 1 ["rows"] (aJd K):=⟨f19,_,pS (P:=l.prog) (w:=w) (base:=base) F19 B   qB (aKQ),bc X G a19,k19,b19⟩
 have kH:Def l.prog w K mg base "is_tighter" 1 ["rows","held","column","at","other"] (aJI K):=⟨f21,_,wQ (P:=l.prog) (w:=w) (base:=base) F21 B   wL (aKk),bc X G a21,k21,b21⟩
 have aEv:Def l.prog w K mg base "turn" 1 ["rows","at","column","bottom"] (aIj K):=⟨f22,_,aGO (P:=l.prog) (w:=w) (base:=base) F22 B   aGW (aKv),bc X G a22,k22,b22⟩
 have iP:Def l.prog w K mg base "do_rise" 1 ["some"] (aJe K):=⟨f26,_,aCa (P:=l.prog) (w:=w) (base:=base) F26 B   aBV (aKY),bc X G a26,k26,b26⟩
 have jB:Def l.prog w K mg base "_law_cmixed" 1 ["cell","at"] (aCF):=⟨f32,_,uA (P:=l.prog) (w:=w) (base:=base) F32 B   uF (aJi),bc X G a32,k32,b32⟩
 have kJ:Def l.prog w K mg base "_law_copen" 1 ["script"] (aBu K):=⟨f33,_,xB (P:=l.prog) (w:=w) (base:=base) F33 B   wC (aGT),bc X G a33,k33,b33⟩
 have jC:Def l.prog w K mg base "_law_cpairs" 1 ["many"] (gP K):=⟨f35,_,tW (P:=l.prog) (w:=w) (base:=base) F35 B   tQ (aFb),bc X G a35,k35,b35⟩
 have jD:Def l.prog w K mg base "_law_cshort" 1 ["rows"] (eV K):=⟨f36,_,tN (P:=l.prog) (w:=w) (base:=base) F36 B   uC (aDx),bc X G a36,k36,b36⟩
 have dD:Def l.prog w K mg base "are_wholes" 2 ["thing"] (K40.L.spWs K):=⟨f1,_,wZ (P:=l.prog) (w:=w) (base:=base) F1 B  oS vI (K40.L.rd_wholes),bc X G a1,k1,b1⟩
 have eA:Def l.prog w K mg base "lowest" 2 ["top","bottom"] (aAV K):=⟨f2,_,aEl (P:=l.prog) (w:=w) (base:=base) F2 B  bX aDf (aJw),bc X G a2,k2,b2⟩
 have gQ:Def l.prog w K mg base "common_bottom" 2 ["some"] (aJJ K):=⟨f7,_,pX (P:=l.prog) (w:=w) (base:=base) F7 B  bX pU (aKF),bc X G a7,k7,b7⟩
 have cH:DefX l.prog w K mg base "refuse_unfit" 2 ["table"] (aHC K C_NotEven C_TooFew C_TooMany):=⟨f11,_,sJ (P:=l.prog) (w:=w) (base:=base) F11 B G_LEAST_PLACES G_MOST_PLACES GC_NotEven GC_TooFew GC_TooMany XC_NotEven XC_TooFew XC_TooMany tG rX (aKE),bc X G a11,k11,b11⟩
 have iZ:Def l.prog w K mg base "price_steps" 2 ["many"] (aJS K):=⟨f16,_,uD (P:=l.prog) (w:=w) (base:=base) F16 B  eB uE (aKp),bc X G a16,k16,b16⟩
 have kG:Def l.prog w K mg base "first_rows" 2 ["table","pairs","steps"] (aJR K):=⟨f17,_,vW (P:=l.prog) (w:=w) (base:=base) F17 B  dN wJ (aKa),bc X G a17,k17,b17⟩
 have iD:Def l.prog w K mg base "tightest_row" 2 ["rows","held","column"] (aHW K):=⟨f20,_,sZ (P:=l.prog) (w:=w) (base:=base) F20 B  kH sH (aKO),bc X G a20,k20,b20⟩
 have cJ:Def l.prog w K mg base "_law_cdraw" 2 ["feed","many"] (jH):=⟨f34,_,wN (P:=l.prog) (w:=w) (base:=base) F34 B  jB xG (aHg),bc X G a34,k34,b34⟩
 have eI:Def l.prog w K mg base "is_fraction" 3 ["thing"] (aJn K):=⟨f4,_,tR (P:=l.prog) (w:=w) (base:=base) F4 B  dD bX tM (aKj),bc X G a4,k4,b4⟩
 have oU:Def l.prog w K mg base "times" 3 ["one","other"] (aDB K):=⟨f5,_,aFk (P:=l.prog) (w:=w) (base:=base) F5 B  eA aFf (aIo),bc X G a5,k5,b5⟩
 have eS:Def l.prog w K mg base "total" 3 ["some"] (yQ K):=⟨f9,_,aEM (P:=l.prog) (w:=w) (base:=base) F9 B  gQ eA lV aEN (aID),bc X G a9,k9,b9⟩
 have aAW:Def l.prog w K mg base "climb" 3 ["rows","held"] (aJE K):=⟨f18,_,aFg (P:=l.prog) (w:=w) (base:=base) F18 B  fA iD aEv aEB (aKd),bc X G a18,k18,b18⟩
 have lW:Def l.prog w K mg base "told_cuts" 3 ["steps","rows","held","bottom"] (aJO K):=⟨f23,_,zJ (P:=l.prog) (w:=w) (base:=base) F23 B  eA yU (aLj),bc X G a23,k23,b23⟩
 have kI:Def l.prog w K mg base "_law_ceven" 3 ["feed","least","most"] (aBq K):=⟨f37,_,vY (P:=l.prog) (w:=w) (base:=base) F37 B  cJ jC jD xC (aFw),bc X G a37,k37,b37⟩
 have iE:Def l.prog w K mg base "_law_cuneven" 3 ["feed","table"] (aJs K):=⟨f38,_,rA (P:=l.prog) (w:=w) (base:=base) F38 B  cJ rM (aKt),bc X G a38,k38,b38⟩
 have nX:DefX l.prog w K mg base "shares" 4 ["table"] (aEc K C_NotEven C_TooFew C_TooMany):=⟨f15,_,aDv (P:=l.prog) (w:=w) (base:=base) F15 B  fO aAW kG eA iZ lW cH aDp (aIK),bc X G a15,k15,b15⟩
 have oT:Def l.prog w K mg base "is_share" 4 ["many","thing"] (aJM K):=⟨f25,_,aAB (P:=l.prog) (w:=w) (base:=base) F25 B  dD eI aAk (aKJ),bc X G a25,k25,b25⟩
 have kX:Def l.prog w K mg base "over_cut" 4 ["some","cut"] (aJK K):=⟨f27,_,aAg (P:=l.prog) (w:=w) (base:=base) F27 B  dN eS aAh (aKo),bc X G a27,k27,b27⟩
 have xL:Def l.prog w K mg base "is_cut" 4 ["many","thing"] (aJH K):=⟨f29,_,aDg (P:=l.prog) (w:=w) (base:=base) F29 B  eB dD eI aEp (aKw),bc X G a29,k29,b29⟩
 have tH:Def l.prog w K mg base "between" 4 ["some","i","j"] (aJP K):=⟨f30,_,aCh (P:=l.prog) (w:=w) (base:=base) F30 B  dN eS aCi (aLc),bc X G a30,k30,b30⟩
 have xN:DefX l.prog w K mg base "are_shares" 5 ["table","some","worth"] (aDQ K C_NotEven C_TooFew C_TooMany):=⟨f24,_,vZ (P:=l.prog) (w:=w) (base:=base) F24 B GC_TWO GA eB iP iQ oT kX oU eS cH vX (aHK hT2),bc X G a24,k24,b24⟩
 have aAX:DefX l.prog w K mg base "are_cuts" 5 ["table","some","worth"] (aDn K C_NotEven C_TooFew C_TooMany):=⟨f28,_,aAt (P:=l.prog) (w:=w) (base:=base) F28 B GC_TWO GA fO tH iP xL iQ oU eS cH aAP (aIi hT2),bc X G a28,k28,b28⟩
 have uG:DefX l.prog w K mg base "best_prices" 5 ["table"] (aJX K C_NotEven C_TooFew C_TooMany):=⟨f31,_,tU (P:=l.prog) (w:=w) (base:=base) F31 B  eS nX tZ (aKb),bc X G a31,k31,b31⟩
 have HV:∀ f sp,(foK K C_NotEven C_TooFew C_TooMany C_shares C_best_prices C_are_shares C_are_cuts) f sp->DefV l.prog w K mg base 5 f sp:=by
  rintro f sp (⟨rfl,rfl⟩ | ⟨rfl,rfl⟩ | ⟨rfl,rfl⟩ | ⟨rfl,rfl⟩)
  ·exact (nX.v GC_shares).mono (by decide)
  ·exact (uG.v GC_best_prices).mono (by decide)
  ·exact (xN.v GC_are_shares).mono (by decide)
  ·exact (aAX.v GC_are_cuts).mono (by decide)
 have dH:Def l.prog w K mg base "_law_crefused" 6 ["act"] (aCN K (foK K C_NotEven C_TooFew C_TooMany C_shares C_best_prices C_are_shares C_are_cuts) C_NotEven C_TooFew C_TooMany):=⟨f39,_,qE (P:=l.prog) (w:=w) (base:=base) F39 B HV GC_NoBack GC_NoRow GC_NoTable GC_NoText GC_NotEven GC_NotStraight GC_RoundError GC_TooFew GC_TooMany GV  pZ (aIC kx),bc X G a39,k39,b39⟩
 have fS:Def l.prog w K mg base "_law_c_words" 7 ["table"] (aHB K C_NotEven C_TooFew C_TooMany):=⟨f40,_,qZ (P:=l.prog) (w:=w) (base:=base) F40 B GC_are_cuts GC_are_shares GC_best_prices GC_shares dH sV (aKS),bc X G a40,k40,b40⟩
 exact aIB (P:=l.prog) (w:=w) (base:=base) F41 B  fS kI kJ iE aIM (aId)
theorem walk {l:PySem.W.OpenLaw}{q:Program}{loose:List Str}{XP:(Str->Option Value)->Heap->Prop}{YP:World->Heap->Prop}{d:DefRec}{K:Params->aa}(hn:l.most=some 63)(hdf:d.params.defaults=[])
  (hY:∀ (w:World) (h:Heap),YP w h->(K w.params).In h)
  (F:∀ (w:World) (mg:Str->Option Value) (fa:Addr) (h:Heap),(K w.params).In h->h.Ns ar mg->mg d.name=some (.ref fa) ->
   ∃ fd:FuncData,(∀ (s:Shared) (u:Value),za s fd ⟨[u],[]⟩ [("script",u)])/\∀ base:Heap,(K w.params).In base->base.Ns ar mg->FnOk l.prog w (K w.params) mg base CX0 8 fa fd ["script"] (aEn (K w.params))) :
  PySem.W.WalkO q loose XP YP l.row.toRowW d [] (fun f vs=>PySem.call f vs):=
 L2.aGV (n:=63) (k:=8) (x:="script") (CX:=fun _=>CX0) (sp:=fun w=>aEn (K w.params)) hn (by decide) hdf ⟨rfl,by decide,by decide,rfl⟩ hY F (fun _ _ a ns hl _ hS=>⟨a,ns,rfl,hS,hl,fun _=>rfl⟩) fun _ _ _ _ _ z=>z
end K40
open PySem PySem.W PyProof.Rows
def PySem.W.Fast.tw12019520199975464970 : Nat := 0
def PySem.W.Fast.tw9972437729513082562 : Nat := 0
def PySem.W.Fast.tw12581548730380484684 : Nat := 0
def PySem.W.Fast.tw16026711460334742622 : Nat := 0
def PySem.W.Fast.tw2668976701130148423 : Nat := 0
def PySem.W.Fast.tw9526478714111442858 : Nat := 0
def PySem.W.Fast.tw1240019587826635793 : Nat := 0
def PySem.W.Fast.tw16213374801904625146 : Nat := 0
def PySem.W.Fast.tw4856202558561672297 : Nat := 0
def PySem.W.Fast.tw4872989530877085240 : Nat := 0
def PySem.W.Fast.tw12657975936042482611 : Nat := 0
def PySem.W.Fast.tw16895653225356422973 : Nat := 0
def PySem.W.Fast.tw17354385989623122796 : Nat := 0
def PySem.W.Fast.tw2190429661934800292 : Nat := 0
def PySem.W.Fast.tw418779233579613622 : Nat := 0
def PySem.W.Fast.tw6277109687169928372 : Nat := 0
def PySem.W.Fast.tw6429015218518550521 : Nat := 0
set_option maxRecDepth 100000 in
set_option maxHeartbeats 0 in
theorem PySem.Challenge.cw_homeround_k40_shares_refused_holds : PySem.Challenge.rw_homeround_k40_shares_refused.Holds := by
  w_on; o_law; k_head; (case hw => w_witness2)
  k_fill
  refine K40.walk (l := PySem.Challenge.rw_homeround_k40_shares_refused) rfl rfl (fun w h Y => PySem.W.kIn_of Y) ?F
  case F =>
    intro w mg fa h KX G hmg
    refine' K40.all_mk KX G hmg ?a0 ?l0 ?c0 ?k0 ?a1 ?l1 ?c1 ?k1 ?a2 ?l2 ?c2 ?k2 ?a3 ?l3 ?c3 ?k3 ?a4 ?l4 ?c4 ?k4 ?a5 ?l5 ?c5 ?k5 ?a6 ?l6 ?c6 ?k6 ?a7 ?l7 ?c7 ?k7 ?a8 ?l8 ?c8 ?k8 ?a9 ?l9 ?c9 ?k9 ?a10 ?l10 ?c10 ?k10 ?a11 ?l11 ?c11 ?k11 ?a12 ?l12 ?c12 ?k12 ?a13 ?l13 ?c13 ?k13 ?a14 ?l14 ?c14 ?k14 ?a15 ?l15 ?c15 ?k15 ?a16 ?l16 ?c16 ?k16 ?a17 ?l17 ?c17 ?k17 ?a18 ?l18 ?c18 ?k18 ?a19 ?l19 ?c19 ?k19 ?a20 ?l20 ?c20 ?k20 ?a21 ?l21 ?c21 ?k21 ?a22 ?l22 ?c22 ?k22 ?a23 ?l23 ?c23 ?k23 ?a24 ?l24 ?c24 ?k24 ?a25 ?l25 ?c25 ?k25 ?a26 ?l26 ?c26 ?k26 ?a27 ?l27 ?c27 ?k27 ?a28 ?l28 ?c28 ?k28 ?a29 ?l29 ?c29 ?k29 ?a30 ?l30 ?c30 ?k30 ?a31 ?l31 ?c31 ?k31 ?a32 ?l32 ?c32 ?k32 ?a33 ?l33 ?c33 ?k33 ?a34 ?l34 ?c34 ?k34 ?a35 ?l35 ?c35 ?k35 ?a36 ?l36 ?c36 ?k36 ?a37 ?l37 ?c37 ?k37 ?a38 ?l38 ?c38 ?k38 ?a39 ?l39 ?c39 ?k39 ?a40 ?l40 ?c40 ?k40 ?a41 ?l41 ?c41 ?k41 ?z_len ?z_all ?z_min ?z_max ?z_sum ?z_isinstance ?z_sorted ?z_tuple ?z_list ?z_range ?z_int ?z_bool ?z_zip ?z_repr ?z_enumerate ?z_reversed ?z_str ?z_set ?z_abs ?g_LEAST_PLACES ?g_MOST_PLACES ?ac_NoBack ?ac_NoRow ?ac_NoTable ?ac_NoText ?ac_NotEven ?ac_NotStraight ?ac_RoundError ?ac_TWO ?ac_TooFew ?ac_TooMany ?ac_are_cuts ?ac_are_shares ?ac_best_prices ?ac_shares ?XC_NotEven ?XC_TooFew ?XC_TooMany ?z_ValueError ?z_any ?xE_ga ?xE_gn ?xE_cl ?xE_gt ?xE_tk ?xE_ob ?xE_bx ?xE_is ?hE ?oE ?vE ?eE ?sE ?fE ?mE ?xF_ga ?xF_gn ?xF_cl ?xF_gt ?xF_tk ?xF_ob ?xF_bx ?xF_is ?hF ?oF ?vF ?eF ?sF ?fF ?mF ?xM_ga ?xM_gn ?xM_cl ?xM_gt ?xM_tk ?xM_ob ?xM_bx ?xM_is ?hM ?oM ?vM ?eM ?sM ?fM ?mM ?lT2
    (case a0 => k_is)
    (case l0 => k_is)
    (case c0 => k_is)
    (case k0 => k_is)
    (case a1 => k_is)
    (case l1 => k_is)
    (case c1 => k_is)
    (case k1 => k_is)
    (case a2 => k_is)
    (case l2 => k_is)
    (case c2 => k_is)
    (case k2 => k_is)
    (case a3 => k_is)
    (case l3 => k_is)
    (case c3 => k_is)
    (case k3 => k_is)
    (case a4 => k_is)
    (case l4 => k_is)
    (case c4 => k_is)
    (case k4 => k_is)
    (case a5 => k_is)
    (case l5 => k_is)
    (case c5 => k_is)
    (case k5 => k_is)
    (case a6 => k_is)
    (case l6 => k_is)
    (case c6 => k_is)
    (case k6 => k_is)
    (case a7 => k_is)
    (case l7 => k_is)
    (case c7 => k_is)
    (case k7 => k_is)
    (case a8 => k_is)
    (case l8 => k_is)
    (case c8 => k_is)
    (case k8 => k_is)
    (case a9 => k_is)
    (case l9 => k_is)
    (case c9 => k_is)
    (case k9 => k_is)
    (case a10 => k_is)
    (case l10 => k_is)
    (case c10 => k_is)
    (case k10 => k_is)
    (case a11 => k_is)
    (case l11 => k_is)
    (case c11 => k_is)
    (case k11 => k_is)
    (case a12 => k_is)
    (case l12 => k_is)
    (case c12 => k_is)
    (case k12 => k_is)
    (case a13 => k_is)
    (case l13 => k_is)
    (case c13 => k_is)
    (case k13 => k_is)
    (case a14 => k_is)
    (case l14 => k_is)
    (case c14 => k_is)
    (case k14 => k_is)
    (case a15 => k_is)
    (case l15 => k_is)
    (case c15 => k_is)
    (case k15 => k_is)
    (case a16 => k_is)
    (case l16 => k_is)
    (case c16 => k_is)
    (case k16 => k_is)
    (case a17 => k_is)
    (case l17 => k_is)
    (case c17 => k_is)
    (case k17 => k_is)
    (case a18 => k_is)
    (case l18 => k_is)
    (case c18 => k_is)
    (case k18 => k_is)
    (case a19 => k_is)
    (case l19 => k_is)
    (case c19 => k_is)
    (case k19 => k_is)
    (case a20 => k_is)
    (case l20 => k_is)
    (case c20 => k_is)
    (case k20 => k_is)
    (case a21 => k_is)
    (case l21 => k_is)
    (case c21 => k_is)
    (case k21 => k_is)
    (case a22 => k_is)
    (case l22 => k_is)
    (case c22 => k_is)
    (case k22 => k_is)
    (case a23 => k_is)
    (case l23 => k_is)
    (case c23 => k_is)
    (case k23 => k_is)
    (case a24 => k_is)
    (case l24 => k_is)
    (case c24 => k_is)
    (case k24 => k_is)
    (case a25 => k_is)
    (case l25 => k_is)
    (case c25 => k_is)
    (case k25 => k_is)
    (case a26 => k_is)
    (case l26 => k_is)
    (case c26 => k_is)
    (case k26 => k_is)
    (case a27 => k_is)
    (case l27 => k_is)
    (case c27 => k_is)
    (case k27 => k_is)
    (case a28 => k_is)
    (case l28 => k_is)
    (case c28 => k_is)
    (case k28 => k_is)
    (case a29 => k_is)
    (case l29 => k_is)
    (case c29 => k_is)
    (case k29 => k_is)
    (case a30 => k_is)
    (case l30 => k_is)
    (case c30 => k_is)
    (case k30 => k_is)
    (case a31 => k_is)
    (case l31 => k_is)
    (case c31 => k_is)
    (case k31 => k_is)
    (case a32 => k_is)
    (case l32 => k_is)
    (case c32 => k_is)
    (case k32 => k_is)
    (case a33 => k_is)
    (case l33 => k_is)
    (case c33 => k_is)
    (case k33 => k_is)
    (case a34 => k_is)
    (case l34 => k_is)
    (case c34 => k_is)
    (case k34 => k_is)
    (case a35 => k_is)
    (case l35 => k_is)
    (case c35 => k_is)
    (case k35 => k_is)
    (case a36 => k_is)
    (case l36 => k_is)
    (case c36 => k_is)
    (case k36 => k_is)
    (case a37 => k_is)
    (case l37 => k_is)
    (case c37 => k_is)
    (case k37 => k_is)
    (case a38 => k_is)
    (case l38 => k_is)
    (case c38 => k_is)
    (case k38 => k_is)
    (case a39 => k_is)
    (case l39 => k_is)
    (case c39 => k_is)
    (case k39 => k_is)
    (case a40 => k_is)
    (case l40 => k_is)
    (case c40 => k_is)
    (case k40 => k_is)
    (case a41 => k_is)
    (case l41 => k_is)
    (case c41 => k_is)
    (case k41 => k_is)
    (case z_len => k_is)
    (case z_all => k_is)
    (case z_min => k_is)
    (case z_max => k_is)
    (case z_sum => k_is)
    (case z_isinstance => k_is)
    (case z_sorted => k_is)
    (case z_tuple => k_is)
    (case z_list => k_is)
    (case z_range => k_is)
    (case z_int => k_is)
    (case z_bool => k_is)
    (case z_zip => k_is)
    (case z_repr => k_is)
    (case z_enumerate => k_is)
    (case z_reversed => k_is)
    (case z_str => k_is)
    (case z_set => k_is)
    (case z_abs => k_is)
    (case g_LEAST_PLACES => k_is)
    (case g_MOST_PLACES => k_is)
    (case ac_NoBack => k_is)
    (case ac_NoRow => k_is)
    (case ac_NoTable => k_is)
    (case ac_NoText => k_is)
    (case ac_NotEven => k_is)
    (case ac_NotStraight => k_is)
    (case ac_RoundError => k_is)
    (case ac_TWO => k_is)
    (case ac_TooFew => k_is)
    (case ac_TooMany => k_is)
    (case ac_are_cuts => k_is)
    (case ac_are_shares => k_is)
    (case ac_best_prices => k_is)
    (case ac_shares => k_is)
    (case XC_NotEven => first | k_is | kernel_rfl)
    (case XC_TooFew => first | k_is | kernel_rfl)
    (case XC_TooMany => first | k_is | kernel_rfl)
    (case z_ValueError => k_is)
    (case z_any => k_is)
    (case xE_ga => first | k_is | kernel_rfl)
    (case xE_gn => first | k_is | kernel_rfl)
    (case xE_cl => first | k_is | kernel_rfl)
    (case xE_gt => first | k_is | kernel_rfl)
    (case xE_tk => first | k_is | kernel_rfl)
    (case xE_ob => first | k_is | kernel_rfl)
    (case xE_bx => first | k_is | kernel_rfl)
    (case xE_is => first | k_is | kernel_rfl)
    (case hE => first | k_is | kernel_rfl)
    (case oE => first | k_is | kernel_rfl)
    (case vE => first | k_is | kernel_rfl)
    (case eE => first | k_is | kernel_rfl)
    (case sE => first | k_is | kernel_rfl)
    (case fE => first | k_is | kernel_rfl)
    (case mE => first | k_is | kernel_rfl)
    (case xF_ga => first | k_is | kernel_rfl)
    (case xF_gn => first | k_is | kernel_rfl)
    (case xF_cl => first | k_is | kernel_rfl)
    (case xF_gt => first | k_is | kernel_rfl)
    (case xF_tk => first | k_is | kernel_rfl)
    (case xF_ob => first | k_is | kernel_rfl)
    (case xF_bx => first | k_is | kernel_rfl)
    (case xF_is => first | k_is | kernel_rfl)
    (case hF => first | k_is | kernel_rfl)
    (case oF => first | k_is | kernel_rfl)
    (case vF => first | k_is | kernel_rfl)
    (case eF => first | k_is | kernel_rfl)
    (case sF => first | k_is | kernel_rfl)
    (case fF => first | k_is | kernel_rfl)
    (case mF => first | k_is | kernel_rfl)
    (case xM_ga => first | k_is | kernel_rfl)
    (case xM_gn => first | k_is | kernel_rfl)
    (case xM_cl => first | k_is | kernel_rfl)
    (case xM_gt => first | k_is | kernel_rfl)
    (case xM_tk => first | k_is | kernel_rfl)
    (case xM_ob => first | k_is | kernel_rfl)
    (case xM_bx => first | k_is | kernel_rfl)
    (case xM_is => first | k_is | kernel_rfl)
    (case hM => first | k_is | kernel_rfl)
    (case oM => first | k_is | kernel_rfl)
    (case vM => first | k_is | kernel_rfl)
    (case eM => first | k_is | kernel_rfl)
    (case sM => first | k_is | kernel_rfl)
    (case fM => first | k_is | kernel_rfl)
    (case mM => first | k_is | kernel_rfl)
    (case lT2 => first | k_is | kernel_rfl)
